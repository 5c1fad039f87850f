"""The rows of worlds and the logs that keep them, by kind."""

from mixedbags.kinds import are_entries, is_event, is_name, is_places


def is_row(thing):
    """Return whether any value is a row by kind: an event, or the trust or distrust of a person."""
    return is_event(thing) or is_turn(thing)


def is_turn(thing):
    """Return whether any value is the trust or distrust of a person."""
    if not isinstance(thing, tuple) or len(thing) != 2:
        return False
    return thing[0] in ("trust", "distrust") and is_name(thing[1])


def is_start(thing):
    """Return whether any value is the start of a history."""
    return are_entries(thing) and len(thing) > 0 and is_places(tuple([place for place, _ in thing]))


def are_same(one, other):
    """Return whether two values are equal, with equal kinds of all their elements. True is not 1."""
    if isinstance(one, tuple) and isinstance(other, tuple):
        return len(one) == len(other) and all([are_same(part, match) for part, match in zip(one, other)])
    return isinstance(one, bool) == isinstance(other, bool) and one == other
