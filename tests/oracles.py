"""What the checkers and readers must say, written once more in another way, for the tests."""

import re

from tests.support import agrees, agrees_with_start, fits, mask_of, names_of


def is_int(thing):
    return type(thing) is int


def is_name(thing):
    return type(thing) is str and re.fullmatch("[a-z]{1,8}", thing) is not None


def is_places(thing):
    return is_names(thing) and list(thing) == sorted(set(thing))


def is_names(thing):
    return type(thing) is tuple and all(is_name(name) for name in thing)


def is_mark(thing):
    return thing is None or (is_int(thing) and thing in (0, 1))


def is_event(thing):
    if type(thing) is not tuple or not thing or type(thing[0]) is not str:
        return False
    kind, *rest = thing
    if kind == "mix" and len(rest) == 2:
        return is_name(rest[0]) and is_places(rest[1]) and len(rest[1]) > 1
    if kind == "new" and len(rest) == 2:
        return is_name(rest[0]) and is_mark(rest[1])
    if kind == "look" and len(rest) == 3:
        return is_name(rest[0]) and is_name(rest[1]) and is_mark(rest[2]) and rest[2] is not None
    if kind == "pour" and len(rest) == 3:
        return is_name(rest[0]) and is_places(rest[1]) and is_int(rest[2]) and rest[2] in range(len(rest[1]) + 1) \
            and len(rest[1]) > 0
    return False


def is_history_shape(thing):
    if type(thing) is not tuple or len(thing) != 2 or any(type(part) is not tuple for part in thing):
        return False
    for entry in thing[0]:
        if type(entry) is not tuple or len(entry) != 2 or not is_name(entry[0]) or not is_mark(entry[1]):
            return False
    return all(is_event(event) for event in thing[1])


def event_places(event):
    if event[0] in ("mix", "pour"):
        return event[2]
    return (event[1],) if event[0] == "new" else (event[2],)


def history_reason(thing):
    """The word and the position with which a value is refused as a history, or None."""
    if not is_history_shape(thing):
        return ("shape", -1)
    names = [entry[0] for entry in thing[0]]
    if not names:
        return ("start", -1)
    for at, (one, two) in enumerate(zip(names, names[1:])):
        if not one < two:
            return ("start", at + 1)
    for at, event in enumerate(thing[1]):
        if not set(event_places(event)) <= set(names):
            return ("event", at)
    return None


def course_reason(history, trusted, thing):
    """The word and the position with which a value is refused as a course, or None."""
    if type(thing) is not tuple or not all(is_names(state) for state in thing):
        return ("shape", -1)
    if len(thing) != len(history[1]) + 1:
        return ("many", -1)
    for at, state in enumerate(thing):
        if not is_places(state) or not set(state) <= set(names_of(history)):
            return ("state", at)
    masks = [mask_of(history, state) for state in thing]
    if not agrees_with_start(history, masks[0]):
        return ("start", -1)
    for at, event in enumerate(history[1]):
        if not fits(history, event, masks[at], masks[at + 1]):
            return ("event", at)
        if at in trusted and not agrees(history, event, masks[at]):
            return ("report", at)
    return None
