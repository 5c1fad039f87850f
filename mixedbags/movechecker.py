"""The checker of moved papers."""

from mixedbags.arguments import check_reports
from mixedbags.errors import InvalidPaper
from mixedbags.movepapers import moved_bound
from mixedbags.moves import moved_in
from mixedbags.pricedcourses import check_priced_course


def lets_moved(history, trusted, persons, thing):
    """Return the number of moved marks of a moved paper. Raise InvalidPaper if any value is none."""
    check_reports(history, trusted)
    check_priced_course(history, trusted, thing)
    course, prices = thing
    _check_steps(history, persons, prices)
    moved = moved_in(history, course, persons)
    if moved_bound(history, trusted, prices) != moved:
        raise InvalidPaper("bound", -1)
    return moved


def _check_steps(history, persons, prices):
    for at, event in enumerate(history[1]):
        if event[0] == "mix":
            step = max(prices[at]) - min(prices[at])
            if step > 1 or (step == 1 and event[1] not in persons):
                raise InvalidPaper("step", at)
