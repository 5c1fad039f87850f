"""The checker of cost papers."""

from mixedbags.arguments import check_priced
from mixedbags.charging import rated_cost, rates_of
from mixedbags.errors import InvalidPaper
from mixedbags.pricedcourses import check_priced_course
from mixedbags.ratedpapers import rated_bound


def lets_cost(history, trusted, priced, thing, *, weights=()):
    """Return the cost of the course of a cost paper. Raise InvalidPaper if any value is none."""
    check_priced(history, trusted, priced)
    return checked_cost(history, trusted, rates_of(history, priced, weights), thing)


def checked_cost(history, trusted, rates, thing):
    """Return what the course costs at these rates. Raise InvalidPaper if the prices do not show that it is cheapest."""
    check_priced_course(history, trusted, thing)
    course, prices = thing
    _check_level(history, prices)
    cost = rated_cost(history, rates, course)
    if rated_bound(history, trusted, rates, prices) != cost:
        raise InvalidPaper("bound", -1)
    return cost


def _check_level(history, prices):
    for at, event in enumerate(history[1]):
        if event[0] == "mix" and min(prices[at]) != max(prices[at]):
            raise InvalidPaper("level", at)
