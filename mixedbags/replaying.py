"""Logs by kind, and the worlds that they lead to."""

from mixedbags.rowkinds import is_row, is_start
from mixedbags.worlds import World


def is_log(thing):
    """Return whether any value is a log by kind."""
    if not isinstance(thing, tuple) or len(thing) == 0:
        return False
    return _is_first(thing[0]) and all([is_row(row) for row in thing[1:]])


def _is_first(thing):
    return isinstance(thing, tuple) and len(thing) == 2 and thing[0] == "world" and is_start(thing[1])


def replayed(log):
    """Return a new world after the rows of a log. Raise the InvalidEvent of the first row that is not possible."""
    world = World(log[0][1])
    for at in range(1, len(log)):
        world.go(log[at])
    return world
