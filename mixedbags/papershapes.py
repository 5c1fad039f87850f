"""The shapes of the parts of papers, whatever the history."""

from mixedbags.kinds import is_integer, is_name
from mixedbags.prices import are_integers


def is_prices_shape(thing):
    """Return whether any value is a tuple whose entries are None or tuples of integers."""
    if not isinstance(thing, tuple):
        return False
    return all([entry is None or are_integers(entry) for entry in thing])


def is_stretch_shape(thing):
    """Return whether any value is a tuple of a name and two integers."""
    if not isinstance(thing, tuple) or len(thing) != 3:
        return False
    return is_name(thing[0]) and is_integer(thing[1]) and is_integer(thing[2])
