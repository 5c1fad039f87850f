"""The checker of range papers."""

from mixedbags.arguments import check_question
from mixedbags.coursechecker import is_agreeing_course, is_course_shape
from mixedbags.errors import InvalidPaper
from mixedbags.papershapes import is_prices_shape, is_stretch_shape
from mixedbags.prices import are_level, are_prices, lower_bound, upper_bound
from mixedbags.questions import number_of
from mixedbags.stretches import allowed_marks, stretches_of


def lets_range(history, trusted, moment, places, thing):
    """Return the two numbers of a "range" paper, and None for the other forms. Raise InvalidPaper otherwise."""
    check_question(history, trusted, moment, places)
    if not _is_range_shape(thing):
        raise InvalidPaper("shape", -1)
    if thing[0] == "range":
        return _checked_range(history, trusted, moment, places, thing)
    check_no_course(history, trusted, thing)
    return None


def _is_range_shape(thing):
    if not isinstance(thing, tuple) or len(thing) == 0:
        return False
    if thing[0] == "range" and len(thing) == 5:
        are_courses = is_course_shape(thing[1]) and is_course_shape(thing[3])
        return are_courses and is_prices_shape(thing[2]) and is_prices_shape(thing[4])
    return is_no_course_shape(thing)


def is_no_course_shape(thing):
    """Return whether any value is ("none", prices) or ("clash", stretch) by its shape."""
    if not isinstance(thing, tuple) or len(thing) != 2:
        return False
    if thing[0] == "none":
        return is_prices_shape(thing[1])
    return thing[0] == "clash" and is_stretch_shape(thing[1])


def check_no_course(history, trusted, thing):
    """Raise InvalidPaper if ("none", prices) or ("clash", stretch) does not show that there is no course."""
    if thing[0] == "none":
        _check_no_course_prices(history, trusted, thing[1])
    else:
        _check_clash(history, trusted, thing[1])


def _check_no_course_prices(history, trusted, prices):
    check_level(history, prices, 0)
    bound = lower_bound(history, trusted, 0, (), prices)
    if bound is None or bound <= 0:
        raise InvalidPaper("bound", 0)


def check_level(history, prices, at):
    """Raise InvalidPaper for the prices with this index if they are not level prices of the history."""
    if not are_prices(history, prices) or not are_level(history, prices):
        raise InvalidPaper("prices", at)


def _check_clash(history, trusted, stretch):
    if stretch not in stretches_of(history):
        raise InvalidPaper("stretch", -1)
    if len(allowed_marks(history, trusted, stretch)) > 0:
        raise InvalidPaper("marks", -1)


def _checked_range(history, trusted, moment, places, thing):
    _, low_course, low_prices, high_course, high_prices = thing
    check_course(history, trusted, low_course, 0)
    check_course(history, trusted, high_course, 1)
    check_level(history, low_prices, 0)
    check_level(history, high_prices, 1)
    low = number_of(low_course, moment, places)
    if lower_bound(history, trusted, moment, places, low_prices) != low:
        raise InvalidPaper("bound", 0)
    high = number_of(high_course, moment, places)
    if upper_bound(history, trusted, moment, places, high_prices) != high:
        raise InvalidPaper("bound", 1)
    return (low, high)


def check_course(history, trusted, course, at):
    """Raise InvalidPaper for the course with this index if it is not one that agrees with the trusted reports."""
    if not is_agreeing_course(history, trusted, course):
        raise InvalidPaper("course", at)
