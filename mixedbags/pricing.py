"""Prices that give the best bounds, and prices that show that there is no course."""

from mixedbags.arguments import check_question, check_reports
from mixedbags.extremes import extreme_of
from mixedbags.flows import prices_against
from mixedbags.stretches import marks_by_stretch


def best_prices(history, trusted, moment, places, *, is_upper=True):
    """Return any best upper or best lower prices, or None if there is no course."""
    check_question(history, trusted, moment, places)
    found = extreme_of(history, trusted, moment, places, is_upper)
    if found is None:
        return None
    return found[1]


def no_course_prices(history, trusted):
    """Return any no-course prices, or None if there are none."""
    check_reports(history, trusted)
    marks = marks_by_stretch(history, trusted)
    if not all([marks[stretch] for stretch in marks]):
        return None
    return prices_against(history, trusted, marks)
