"""What wrong reports cost."""

from mixedbags.arguments import check_reports
from mixedbags.charging import charges_of, rated_cost, rates_of
from mixedbags.flows import lightest_course
from mixedbags.stretches import marks_by_stretch


def cost_of(history, priced, course, *, weights=()):
    """Return the cost of the course."""
    check_reports(history, priced)
    return rated_cost(history, rates_of(history, priced, weights), course)


def least_cost(history, trusted, priced, *, weights=()):
    """Return the least cost of a course that agrees with the trusted reports, or None if there is none."""
    course = cheapest_course(history, trusted, priced, weights=weights)
    if course is None:
        return None
    return cost_of(history, priced, course, weights=weights)


def cheapest_course(history, trusted, priced, *, weights=()):
    """Return any course of the least cost, or None if no course agrees with the trusted reports."""
    check_reports(history, trusted)
    check_reports(history, priced)
    charges = charges_of(history, rates_of(history, priced, weights))
    found = lightest_course(history, trusted, marks_by_stretch(history, trusted), charges)
    if found is None:
        return None
    return found[0]
