"""What any value is: an integer, a name, an event, the shape of a history."""


def is_integer(thing):
    """Return whether the value is an integer. True and False are none."""
    return isinstance(thing, int) and not isinstance(thing, bool)


def is_number(thing):
    """Return whether the value is an integer that is at least 0."""
    return is_integer(thing) and thing >= 0


def are_numbers(thing):
    """Return whether the value is a tuple of numbers, in any order."""
    return isinstance(thing, tuple) and all([is_number(number) for number in thing])


def is_name(thing):
    """Return whether the value is a string of one to eight lowercase letters."""
    if not isinstance(thing, str) or not 1 <= len(thing) <= 8:
        return False
    return all(["a" <= sign <= "z" for sign in thing])


def is_mark(thing):
    """Return whether the value is a mark. None is the unknown one."""
    return thing is None or is_seen_mark(thing)


def is_seen_mark(thing):
    """Return whether the value is a mark that somebody can see in a bag: 0 or 1."""
    return is_integer(thing) and 0 <= thing <= 1


def is_names(thing):
    """Return whether the value is a tuple of names, in any order."""
    return isinstance(thing, tuple) and all([is_name(name) for name in thing])


def is_places(thing):
    """Return whether the value is an ascending tuple of names."""
    if not is_names(thing):
        return False
    return all([thing[at - 1] < thing[at] for at in range(1, len(thing))])


def is_event(thing):
    """Return whether the value has the shape of an event."""
    if not isinstance(thing, tuple) or len(thing) < 3:
        return False
    if thing[0] == "mix":
        return _is_mix(thing)
    if thing[0] == "new":
        return _is_new(thing)
    if thing[0] == "look":
        return _is_look(thing)
    if thing[0] == "pour":
        return _is_pour(thing)
    return False


def _is_mix(thing):
    return len(thing) == 3 and is_name(thing[1]) and is_places(thing[2]) and len(thing[2]) >= 2


def _is_new(thing):
    return len(thing) == 3 and is_name(thing[1]) and is_mark(thing[2])


def _is_look(thing):
    return len(thing) == 4 and is_name(thing[1]) and is_name(thing[2]) and is_seen_mark(thing[3])


def _is_pour(thing):
    if len(thing) != 4 or not is_name(thing[1]) or not is_places(thing[2]):
        return False
    return len(thing[2]) >= 1 and is_number(thing[3]) and thing[3] <= len(thing[2])


def is_history_shape(thing):
    """Return whether the value has the shape of a history."""
    if not isinstance(thing, tuple) or len(thing) != 2:
        return False
    start, events = thing
    return are_entries(start) and isinstance(events, tuple) and all([is_event(event) for event in events])


def are_entries(thing):
    """Return whether the value is a tuple of pairs of a name and a mark, in any order."""
    return isinstance(thing, tuple) and all([_is_entry(entry) for entry in thing])


def _is_entry(thing):
    return isinstance(thing, tuple) and len(thing) == 2 and is_name(thing[0]) and is_mark(thing[1])
