"""Pairs of a course and prices, as moved papers and cost papers are."""

from mixedbags.coursechecker import is_course_shape, lets_course
from mixedbags.errors import InvalidPaper
from mixedbags.papershapes import is_prices_shape
from mixedbags.prices import is_price_of


def check_priced_course(history, trusted, thing):
    """Raise InvalidPaper if any value is no pair of a course that agrees with the trusted reports, and prices."""
    if not _is_priced_course_shape(thing):
        raise InvalidPaper("shape", -1)
    course, prices = thing
    lets_course(history, trusted, course)
    if len(prices) != len(history[1]):
        raise InvalidPaper("prices", -1)
    for at, event in enumerate(history[1]):
        if not is_price_of(event, prices[at]):
            raise InvalidPaper("prices", at)


def _is_priced_course_shape(thing):
    return isinstance(thing, tuple) and len(thing) == 2 and is_course_shape(thing[0]) and is_prices_shape(thing[1])
