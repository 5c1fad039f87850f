"""What the checkers and readers must say, written once more in another way, for the tests."""

import re

from tests.support import agrees, agrees_with_start, fits, mask_of, names_of


def is_int(thing):
    return type(thing) is int


def is_name(thing):
    return type(thing) is str and re.fullmatch("[a-z]{1,8}", thing) is not None


def is_places(thing):
    return is_names(thing) and list(thing) == sorted(set(thing))


def is_names(thing):
    return type(thing) is tuple and all(is_name(name) for name in thing)


def is_mark(thing):
    return thing is None or (is_int(thing) and thing in (0, 1))


def is_event(thing):
    if type(thing) is not tuple or not thing or type(thing[0]) is not str:
        return False
    kind, *rest = thing
    if kind == "mix" and len(rest) == 2:
        return is_name(rest[0]) and is_places(rest[1]) and len(rest[1]) > 1
    if kind == "new" and len(rest) == 2:
        return is_name(rest[0]) and is_mark(rest[1])
    if kind == "look" and len(rest) == 3:
        return is_name(rest[0]) and is_name(rest[1]) and is_mark(rest[2]) and rest[2] is not None
    if kind == "pour" and len(rest) == 3:
        return is_name(rest[0]) and is_places(rest[1]) and is_int(rest[2]) and rest[2] in range(len(rest[1]) + 1) \
            and len(rest[1]) > 0
    return False


def is_history_shape(thing):
    if type(thing) is not tuple or len(thing) != 2 or any(type(part) is not tuple for part in thing):
        return False
    for entry in thing[0]:
        if type(entry) is not tuple or len(entry) != 2 or not is_name(entry[0]) or not is_mark(entry[1]):
            return False
    return all(is_event(event) for event in thing[1])


def event_places(event):
    if event[0] in ("mix", "pour"):
        return event[2]
    return (event[1],) if event[0] == "new" else (event[2],)


def history_reason(thing):
    """The word and the position with which a value is refused as a history, or None."""
    if not is_history_shape(thing):
        return ("shape", -1)
    names = [entry[0] for entry in thing[0]]
    if not names:
        return ("start", -1)
    for at, (one, two) in enumerate(zip(names, names[1:])):
        if not one < two:
            return ("start", at + 1)
    for at, event in enumerate(thing[1]):
        if not set(event_places(event)) <= set(names):
            return ("event", at)
    return None


def course_reason(history, trusted, thing):
    """The word and the position with which a value is refused as a course, or None."""
    if type(thing) is not tuple or not all(is_names(state) for state in thing):
        return ("shape", -1)
    if len(thing) != len(history[1]) + 1:
        return ("many", -1)
    for at, state in enumerate(thing):
        if not is_places(state) or not set(state) <= set(names_of(history)):
            return ("state", at)
    masks = [mask_of(history, state) for state in thing]
    if not agrees_with_start(history, masks[0]):
        return ("start", -1)
    for at, event in enumerate(history[1]):
        if not fits(history, event, masks[at], masks[at + 1]):
            return ("event", at)
        if at in trusted and not agrees(history, event, masks[at]):
            return ("report", at)
    return None


def slow_stretches(history):
    """Stretches found from the moments: a place keeps its bag as long as no event moves it."""
    last = len(history[1])
    found = []
    for place, _ in history[0]:
        begin = -1
        for at, event in enumerate(history[1]):
            touched = {"mix": event[2], "pour": event[2], "new": event[1:2], "look": ()}[event[0]]
            if place in touched:
                found.append((place, begin, at))
                begin = at
        found.append((place, begin, last))
    return tuple(sorted(found))


def slow_marks(history, trusted, stretch):
    place, begin, end = stretch
    marks = {0, 1}
    if begin == -1:
        known = dict(history[0])[place]
    else:
        known = history[1][begin][2] if history[1][begin][0] == "new" else None
    if known is not None:
        marks &= {known}
    for at in range(begin + 1, end):
        if at in trusted and history[1][at][0] == "look" and history[1][at][2] == place:
            marks &= {history[1][at][3]}
    return tuple(sorted(marks))


def marks_held(history, trusted, moment, stretch, held):
    """The allowed marks of a stretch that remain if places have these marks at the moment."""
    place, begin, end = stretch
    known = [mark for name, mark in held if name == place and begin < moment <= end]
    return tuple(mark for mark in slow_marks(history, trusted, stretch) if all(mark == one for one in known))


def slow_bound(history, trusted, moment, places, prices, is_upper, held=()):
    """The bound by prices, straight from the definitions, or None. held: marks of places at the moment."""
    best = max if is_upper else min
    total = 0
    for stretch in slow_stretches(history):
        place, begin, end = stretch
        worth = slow_slope(history, prices, stretch)
        worth += 1 if place in places and begin < moment <= end else 0
        marks = marks_held(history, trusted, moment, stretch, held)
        if not marks:
            return None
        total += best(mark * worth for mark in marks)
    for at, event in enumerate(history[1]):
        if event[0] == "pour":
            numbers = [event[3]] if at in trusted else range(len(event[2]) + 1)
            total += best(number * (prices[at][1] - prices[at][0]) for number in numbers)
    return total


def slow_slope(history, prices, stretch):
    """The price of a stretch at its end minus that at its beginning."""
    place, begin, end = stretch
    slope = 0
    for at, side, sign in ((end, 0, 1), (begin, 1, -1)):
        if at not in (-1, len(history[1])) and history[1][at][0] == "mix":
            slope += sign * dict(zip(history[1][at][2], prices[at]))[place]
        elif at not in (-1, len(history[1])) and history[1][at][0] == "pour":
            slope += sign * prices[at][side]
    return slope


def are_prices(history, thing):
    if type(thing) is not tuple or len(thing) != len(history[1]):
        return False
    for event, entry in zip(history[1], thing):
        if event[0] in ("new", "look"):
            if entry is not None:
                return False
        elif not is_ints(entry) or len(entry) != (len(event[2]) if event[0] == "mix" else 2):
            return False
    return True


def is_ints(thing):
    return type(thing) is tuple and all(is_int(part) for part in thing)


def are_level(history, prices):
    return all(len(set(entry)) == 1 for event, entry in zip(history[1], prices) if event[0] == "mix")


def is_range_shape(thing):
    if type(thing) is not tuple or not thing or type(thing[0]) is not str:
        return False
    shapes = {
        "range": (is_states, is_price_tuple, is_states, is_price_tuple),
        "none": (is_price_tuple,),
        "clash": (is_stretch,),
    }
    wanted = shapes.get(thing[0], ())
    return len(wanted) > 0 and len(thing) == len(wanted) + 1 and all(f(part) for f, part in zip(wanted, thing[1:]))


def is_states(thing):
    return type(thing) is tuple and all(is_names(state) for state in thing)


def is_price_tuple(thing):
    return type(thing) is tuple and all(entry is None or is_ints(entry) for entry in thing)


def is_stretch(thing):
    return type(thing) is tuple and len(thing) == 3 and is_name(thing[0]) and is_ints(thing[1:])


def range_reason(history, trusted, moment, places, thing):
    """The word and the position with which a value is refused as a range paper, or None."""
    if not is_range_shape(thing):
        return ("shape", -1)
    if thing[0] == "clash":
        if thing[1] not in slow_stretches(history):
            return ("stretch", -1)
        return ("marks", -1) if slow_marks(history, trusted, thing[1]) else None
    prices = thing[1:] if thing[0] == "none" else thing[2::2]
    courses = () if thing[0] == "none" else thing[1::2]
    for at, course in enumerate(courses):
        if course_reason(history, trusted, course) is not None:
            return ("course", at)
    for at, part in enumerate(prices):
        if not are_prices(history, part) or not are_level(history, part):
            return ("prices", at)
    if thing[0] == "none":
        bound = slow_bound(history, trusted, 0, (), prices[0], False)
        return ("bound", 0) if bound is None or bound <= 0 else None
    for at, course in enumerate(courses):
        number = len(set(course[moment]) & set(places))
        if slow_bound(history, trusted, moment, places, prices[at], at == 1) != number:
            return ("bound", at)
    return None


def is_places_word(word, fewest, known):
    names = tuple(word.split(","))
    return is_places(names) and len(names) >= fewest and (known is None or set(names) <= set(known))


def is_event_word(words, at, known):
    """Whether the word can stand there behind the words before it."""
    word = words[at]
    if at == 0:
        return word in ("mix", "new", "look", "pour")
    if words[0] == "new":
        return [None, is_places_word(word, 1, known) and "," not in word, word in list("01?"), False][min(at, 3)]
    if at == 1:
        return is_name(word)
    if at == 2:
        if words[0] == "look":
            return is_places_word(word, 1, known) and "," not in word
        return is_places_word(word, 2 if words[0] == "mix" else 1, known)
    if at == 3 and words[0] == "look":
        return word in list("01")
    if at == 3 and words[0] == "pour":
        is_number = re.fullmatch("0|[1-9][0-9]{0,59}", word) is not None
        return is_number and int(word) <= words[2].count(",") + 1
    return False


def wrong_field(text, known):
    """The field with which the line of an event is refused, or None."""
    words = text.split(" ")
    for at in range(len(words)):
        if not is_event_word(words, at, known):
            return at
    wanted = {"mix": 3, "new": 3, "look": 4, "pour": 4}[words[0]]
    return len(words) if len(words) < wanted else None


def wrong_line(text):
    """The line and the field with which the text of a history is refused, or None."""
    known = []
    is_past_places = False
    for line, row in enumerate(text.split("\n")):
        words = row.split(" ")
        if words[0] == "place" and not is_past_places:
            tests = [True, is_name(words[1]) and words[1] > max(known, default="") if len(words) > 1 else False,
                     words[2] in list("01?") if len(words) > 2 else False, len(words) == 3]
            if not all(tests):
                return line, tests.index(False)
            known.append(words[1])
            continue
        field = 0 if line == 0 else wrong_field(row, known)
        if field is not None:
            return line, field
        is_past_places = True
    return None
