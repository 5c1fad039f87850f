"""The checker of moved papers."""

from mixedbags.arguments import check_reports
from mixedbags.coursechecker import is_course_shape, lets_course
from mixedbags.errors import InvalidPaper
from mixedbags.movepapers import moved_bound
from mixedbags.moves import moved_in
from mixedbags.papershapes import is_prices_shape
from mixedbags.prices import is_price_of


def lets_moved(history, trusted, persons, thing):
    """Return the number of moved marks of a moved paper. Raise InvalidPaper if any value is none."""
    check_reports(history, trusted)
    if not is_priced_course_shape(thing):
        raise InvalidPaper("shape", -1)
    course, prices = thing
    lets_course(history, trusted, course)
    check_prices(history, prices)
    _check_steps(history, persons, prices)
    moved = moved_in(history, course, persons)
    if moved_bound(history, trusted, prices) != moved:
        raise InvalidPaper("bound", -1)
    return moved


def is_priced_course_shape(thing):
    """Return whether any value is a pair of a course and prices by its shape."""
    return isinstance(thing, tuple) and len(thing) == 2 and is_course_shape(thing[0]) and is_prices_shape(thing[1])


def check_prices(history, prices):
    """Raise InvalidPaper for the first entry that prices of the history cannot have."""
    if len(prices) != len(history[1]):
        raise InvalidPaper("prices", -1)
    for at, event in enumerate(history[1]):
        if not is_price_of(event, prices[at]):
            raise InvalidPaper("prices", at)


def _check_steps(history, persons, prices):
    for at, event in enumerate(history[1]):
        if event[0] == "mix":
            step = max(prices[at]) - min(prices[at])
            if step > 1 or (step == 1 and event[1] not in persons):
                raise InvalidPaper("step", at)
