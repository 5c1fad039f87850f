"""The checker of set papers."""

from mixedbags.arguments import check_candidates
from mixedbags.coursechecker import is_course_shape
from mixedbags.errors import InvalidPaper
from mixedbags.kinds import are_numbers
from mixedbags.papershapes import is_prices_shape
from mixedbags.prices import lower_bound, upper_bound
from mixedbags.questions import number_of
from mixedbags.rangechecker import check_course, check_level, check_no_course, is_no_course_shape
from mixedbags.reports import joined, without


def lets_report_set(history, trusted, candidates, moment, places, low, high, thing):
    """Return the chosen reports of a set paper. Raise InvalidPaper if any value is none."""
    check_candidates(history, trusted, candidates, moment, places)
    if not _is_set_shape(thing):
        raise InvalidPaper("shape", -1)
    chosen, reason, courses = thing
    _check_chosen(candidates, chosen)
    agreed = joined(trusted, chosen)
    if reason[0] == "within":
        _check_within(history, agreed, moment, places, low, high, reason)
    else:
        check_no_course(history, agreed, reason)
    if len(courses) != len(chosen):
        raise InvalidPaper("many", -1)
    for at, course in enumerate(courses):
        check_course(history, joined(trusted, without(chosen, at)), course, at)
        if low <= number_of(course, moment, places) <= high:
            raise InvalidPaper("number", at)
    return chosen


def _is_set_shape(thing):
    if not isinstance(thing, tuple) or len(thing) != 3:
        return False
    chosen, reason, courses = thing
    if not are_numbers(chosen) or not _is_reason_shape(reason) or not isinstance(courses, tuple):
        return False
    return all([is_course_shape(course) for course in courses])


def _is_reason_shape(thing):
    if isinstance(thing, tuple) and len(thing) == 3 and thing[0] == "within":
        return is_prices_shape(thing[1]) and is_prices_shape(thing[2])
    return is_no_course_shape(thing)


def _check_chosen(candidates, chosen):
    for at, position in enumerate(chosen):
        if position not in candidates or (at > 0 and position <= chosen[at - 1]):
            raise InvalidPaper("chosen", at)


def _check_within(history, trusted, moment, places, low, high, reason):
    _, low_prices, high_prices = reason
    check_level(history, low_prices, 0)
    check_level(history, high_prices, 1)
    least = lower_bound(history, trusted, moment, places, low_prices)
    if least is None or least < low:
        raise InvalidPaper("bound", 0)
    greatest = upper_bound(history, trusted, moment, places, high_prices)
    if greatest is None or greatest > high:
        raise InvalidPaper("bound", 1)
