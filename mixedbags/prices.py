"""Prices of a history, and the bounds that they give."""

from mixedbags.arguments import check_question
from mixedbags.bounds import bound_within
from mixedbags.kinds import is_integer
from mixedbags.stretches import marks_by_stretch


def are_prices(history, thing):
    """Return whether any value is prices of the history."""
    events = history[1]
    if not isinstance(thing, tuple) or len(thing) != len(events):
        return False
    return all([is_price_of(event, entry) for event, entry in zip(events, thing)])


def is_price_of(event, entry):
    """Return whether any value is what prices have for this event."""
    if event[0] == "mix":
        return are_integers(entry) and len(entry) == len(event[2])
    if event[0] == "pour":
        return are_integers(entry) and len(entry) == 2
    return entry is None


def are_integers(thing):
    """Return whether any value is a tuple of integers."""
    return isinstance(thing, tuple) and all([is_integer(entry) for entry in thing])


def are_level(history, prices):
    """Return whether prices of the history are level."""
    for event, entry in zip(history[1], prices):
        if event[0] == "mix" and min(entry) != max(entry):
            return False
    return True


def upper_bound(history, trusted, moment, places, prices):
    """Return the upper bound of the question by level prices, or None if a stretch has no allowed mark."""
    return _bound(history, trusted, moment, places, prices, True)


def lower_bound(history, trusted, moment, places, prices):
    """Return the lower bound of the question by level prices, or None if a stretch has no allowed mark."""
    return _bound(history, trusted, moment, places, prices, False)


def _bound(history, trusted, moment, places, prices, is_upper):
    check_question(history, trusted, moment, places)
    marks = marks_by_stretch(history, trusted)
    return bound_within(history, trusted, marks, moment, places, prices, is_upper)
