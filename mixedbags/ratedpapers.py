"""Courses and prices that show what courses cost at least, at the rates of priced reports."""

from mixedbags.bounds import shares_within
from mixedbags.charging import charges_of
from mixedbags.flows import lightest_course
from mixedbags.stretches import marks_by_stretch


def rated_bound(history, trusted, rates, prices):
    """Return the bound of level prices that no course is cheaper than, or None if a stretch has no allowed mark."""
    marks = marks_by_stretch(history, trusted)
    return shares_within(history, trusted, marks, prices, charges_of(history, rates), False)


def rated_paper(history, trusted, rates):
    """Return a cheapest course and level prices whose bound it reaches, or None if there is no course."""
    marks = marks_by_stretch(history, trusted)
    return lightest_course(history, trusted, marks, charges_of(history, rates))
