"""The courses in which a question has its least or its greatest number, and prices that prove it."""

from mixedbags.flows import lightest_flows
from mixedbags.networks import course_from, prices_from
from mixedbags.questions import counts_stretch
from mixedbags.stretches import marks_by_stretch


def extreme_of(history, trusted, moment, places, is_upper):
    """Return a course with the greatest or the least number and best prices for it, or None."""
    marks = marks_by_stretch(history, trusted)
    # The greatest number is found as the least one of its negatives.
    sign = 1
    if is_upper:
        sign = -1
    weights = {stretch: sign for stretch in marks if counts_stretch(stretch, moment, places)}
    found = lightest_flows(history, trusted, marks, weights)
    if found is None:
        return None
    flows, distances = found
    return course_from(history, flows), prices_from(history, distances, sign)
