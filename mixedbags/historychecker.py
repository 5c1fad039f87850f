"""The checker of histories."""

from mixedbags.errors import InvalidPaper
from mixedbags.kinds import is_history_shape
from mixedbags.reports import places_in, places_of


def lets_history(thing):
    """Return the number of events if any value is a history. Raise InvalidPaper otherwise."""
    if not is_history_shape(thing):
        raise InvalidPaper("shape", -1)
    _check_start(places_of(thing))
    _check_events(thing)
    return len(thing[1])


def _check_start(places):
    if len(places) == 0:
        raise InvalidPaper("start", -1)
    for at in range(1, len(places)):
        if places[at] <= places[at - 1]:
            raise InvalidPaper("start", at)


def _check_events(history):
    known = {place: True for place in places_of(history)}
    for at, event in enumerate(history[1]):
        for place in places_in(event):
            if place not in known:
                raise InvalidPaper("event", at)
