"""The courses in which a question has its least or its greatest number, and prices that prove it."""

from mixedbags.flows import lightest_course
from mixedbags.questions import counts_stretch
from mixedbags.stretches import marks_by_stretch


def extreme_of(history, trusted, moment, places, is_upper):
    """Return a course with the greatest or the least number and best prices for it, or None."""
    return extreme_within(history, trusted, marks_by_stretch(history, trusted), moment, places, is_upper)


def extreme_within(history, trusted, marks, moment, places, is_upper):
    """Return the same for the courses that have the marks that are left to each stretch."""
    # The greatest number is found as the least one of its negatives.
    sign = 1
    if is_upper:
        sign = -1
    charges = {stretch: (0, sign) for stretch in marks if counts_stretch(stretch, moment, places)}
    return lightest_course(history, trusted, marks, charges, sign=sign)
