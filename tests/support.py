"""Values and a search of their own for the tests: nothing here uses the package.

The search works on masks: bit i of a mask is the place i of the history. It tries every
pair of states at every event.
"""

import itertools
import random

START = (("a", 1), ("b", 0), ("c", 1), ("d", 0))
EVENTS = (
    ("mix", "ann", ("a", "b")),
    ("mix", "bob", ("c", "d")),
    ("pour", "cy", ("b", "c"), 1),
    ("pour", "cy", ("a", "d"), 1),
)
HISTORY = (START, EVENTS)
EMPTY = ((("a", 0), ("b", 0)), (("mix", "ann", ("a", "b")), ("pour", "cy", ("a", "b"), 1)))
SIXTY = 10 ** 60 - 1
NAMES = ("a", "ab", "b", "ba", "c", "cab", "zzzzzzzz")
KINDS = ("mix", "mix", "new", "look", "pour")
RING = (
    tuple(zip("abcdef", (1, 0, 1, 0, 1, 0))),
    (("mix", "ann", ("a", "b")), ("mix", "ann", ("c", "d")), ("mix", "bob", ("e", "f")),
     ("pour", "cy", ("b", "c"), 1), ("pour", "cy", ("d", "e"), 1), ("pour", "dot", ("a", "f"), 1)),
)
CLASHING = (START, (("look", "cy", "a", 0), ("mix", "ann", ("a", "b")), ("look", "cy", "a", 0)))
# The reports 0 and 1 contradict each other, 2 says too much for the two bags, 3 says nothing new.
ONE = (
    (("a", 1), ("b", 0), ("c", 0)),
    (("mix", "ann", ("a", "b")), ("mix", "bob", ("b", "c")), ("look", "cy", "c", 1)),
)
TWO = (
    (("a", 1), ("b", 0)),
    (("mix", "ann", ("a", "b")), ("look", "cy", "a", 1), ("look", "dot", "a", 0), ("pour", "eve", ("a", "b"), 0)),
)
BAD = ((("a", 1),), (("look", "cy", "a", 0),))
SEVEN = (
    tuple((name, None) for name in "abcdefg"),
    tuple(("look", "cy", name, 1) for name in "abcdefg") + (("look", "dot", "a", 0),),
)
QUARREL = (
    (("a", None), ("b", 0), ("c", None)),
    (("look", "ann", "a", 0), ("look", "bob", "a", 1), ("pour", "cy", ("a", "b"), 2), ("pour", "cy", ("b",), 0),
     ("mix", "dot", ("a", "c")), ("look", "eve", "c", 1)),
)
EIGHT = ((("a", None), ("b", 0)), (("look", "cy", "a", 1),) * 8)
PERSONS = ("ann", "bob", "cy", "dot", "eve")


def random_history(seed, places, events, unknown=0.4, kinds=KINDS):
    """A history with this many places and events, in general of all four kinds."""
    chance = random.Random(seed)
    names = NAMES[:places]
    start = tuple((name, None if chance.random() < unknown else chance.randint(0, 1)) for name in names)
    return start, tuple(random_event(chance, names, kinds) for _ in range(events))


def random_event(chance, names, kinds):
    kind = chance.choice(kinds)
    person = chance.choice(PERSONS)
    if kind == "mix" and len(names) >= 2:
        return ("mix", person, random_places(chance, names, 2))
    if kind in ("new", "mix"):
        return ("new", chance.choice(names), chance.choice((0, 1, None)))
    if kind == "look":
        return ("look", person, chance.choice(names), chance.randint(0, 1))
    places = random_places(chance, names, 1)
    return ("pour", person, places, chance.randint(0, len(places)))


def random_places(chance, names, fewest):
    return tuple(sorted(chance.sample(names, chance.randint(fewest, len(names)))))


def random_trusted(seed, history):
    """All, some or no reports of the history."""
    chance = random.Random(seed)
    reports = reports_in(history)
    share = chance.choice((0, 0.3, 0.6, 1))
    return tuple(at for at in reports if chance.random() < share)


def reports_in(history):
    return tuple(at for at, event in enumerate(history[1]) if event[0] in ("look", "pour"))


def cases(count, most_places=5, most_events=8):
    """Histories with trusted reports, some of them contradictory."""
    for seed in range(count):
        chance = random.Random(seed)
        history = random_history(seed, chance.randint(1, most_places), chance.randint(0, most_events))
        yield history, random_trusted(seed, history)


def telling_cases(count, most_places=5, most_events=9):
    """Histories with many reports, all, some or none of them trusted, and a question."""
    for seed in range(count):
        chance = random.Random(seed)
        kinds = chance.choice((("mix", "look", "pour"), ("mix", "new", "look", "look", "pour"), KINDS))
        history = random_history(seed, chance.randint(2, most_places), chance.randint(2, most_events), 0.6, kinds)
        moment, places = random_question(chance, history)
        yield history, random_trusted(seed, history), moment, places


def gap_cases(count, most_places=5):
    """Histories whose pairs are mixed and later poured in other pairs, so that numbers in between can be missing."""
    for seed in range(count):
        chance = random.Random(seed)
        names = NAMES[:chance.choice((4, 4, most_places))]
        events = random_pairs(chance, names, "mix", ())
        marked = [places[chance.random() < 0.5] for _, _, places in events if chance.random() < 0.9]
        start = tuple((name, int(name in marked)) for name in names)
        moment = len(events)
        events += random_pairs(chance, names, "pour", (1,))
        history = (start, events)
        trusted = reports_in(history) if chance.random() < 0.8 else random_trusted(seed, history)
        yield history, trusted, moment, tuple(sorted(chance.sample(names, chance.choice((2, 2, 3)))))


def moving_history(seed, most_places=5, most_events=9):
    """A history in which marks move, with reports that are right, and with start known."""
    chance = random.Random(seed)
    names = NAMES[:chance.randint(2, most_places)]
    kinds = chance.choice((("mix", "look"), ("mix", "look", "look"), ("mix", "mix", "look", "look", "look", "pour", "new")))
    held = {name: chance.randint(0, 1) for name in names}
    start = tuple(held.items())
    events = []
    for _ in range(chance.randint(2, most_events)):
        event = random_event(chance, names, kinds)
        if event[0] in ("mix", "pour"):
            marks = [held[name] for name in event[2]]
            event = event[:3] + (sum(marks),) * (event[0] == "pour")
            held.update(zip(event[2], chance.sample(marks, len(marks))))
        elif event[0] == "look":
            event = event[:3] + (held[event[2]],)
        elif event[2] is not None:
            held[event[1]] = event[2]
        events.append(event)
    return start, tuple(events)


def random_pairs(chance, names, kind, rest):
    row = chance.sample(names, len(names))
    return tuple((kind, chance.choice(PERSONS), tuple(sorted(row[at:at + 2])), *rest) for at in range(0, len(row) - 1, 2))


def pouring_cases(count):
    """Histories in which most bags are poured, with none or few of the reports trusted."""
    for seed in range(count):
        history = random_history(seed, 2 + seed % 3, 3 + seed % 5, kinds=("mix", "pour", "pour", "look"))
        yield history, reports_in(history)[seed % 4::4] if seed % 2 else ()


def names_of(history):
    return tuple(place for place, _ in history[0])


def mask_of(history, places):
    names = names_of(history)
    return sum(1 << names.index(place) for place in places)


def state_of(history, mask):
    return tuple(name for at, name in enumerate(names_of(history)) if mask >> at & 1)


def states_in(history, masks):
    return tuple(sorted(state_of(history, mask) for mask in masks))


def ones(mask):
    return bin(mask).count("1")


def all_masks(history):
    return range(1 << len(history[0]))


def agrees_with_start(history, mask):
    return all(mark is None or mask >> at & 1 == mark for at, (_, mark) in enumerate(history[0]))


def fits(history, event, before, after):
    if event[0] == "look":
        return before == after
    changed = mask_of(history, (event[1],) if event[0] == "new" else event[2])
    if before & ~changed != after & ~changed:
        return False
    if event[0] == "new":
        return event[2] is None or (after & changed != 0) == (event[2] == 1)
    return ones(before & changed) == ones(after & changed)


def agrees(history, event, before):
    if event[0] == "look":
        return (before & mask_of(history, (event[2],)) != 0) == (event[3] == 1)
    return ones(before & mask_of(history, event[2])) == event[3]


def is_step(history, trusted, at, before, after):
    event = history[1][at]
    return fits(history, event, before, after) and (at not in trusted or agrees(history, event, before))


def past_masks(history, trusted):
    """For each moment the list of the past states."""
    layers = [[mask for mask in all_masks(history) if agrees_with_start(history, mask)]]
    for at in range(len(history[1])):
        after = [new for new in all_masks(history)
                 if any(is_step(history, trusted, at, old, new) for old in layers[-1])]
        layers.append(after)
    return layers


def future_masks(history, trusted):
    """For each moment the list of the future states."""
    layers = [list(all_masks(history))]
    for at in reversed(range(len(history[1]))):
        before = [old for old in all_masks(history)
                  if any(is_step(history, trusted, at, old, new) for new in layers[0])]
        layers.insert(0, before)
    return layers


def possible_masks(history, trusted):
    """For each moment the list of the possible states."""
    pairs = zip(past_masks(history, trusted), future_masks(history, trusted))
    return [[mask for mask in past if mask in future] for past, future in pairs]


def is_course(history, trusted, course):
    """Whether the course is one that agrees with the trusted reports, by the search's own rules."""
    if len(course) != len(history[1]) + 1 or not agrees_with_start(history, mask_of(history, course[0])):
        return False
    if any(state != tuple(sorted(set(state))) for state in course):
        return False
    masks = [mask_of(history, state) for state in course]
    return all(is_step(history, trusted, at, masks[at], masks[at + 1]) for at in range(len(history[1])))


def numbers_at(history, masks, places):
    """The numbers that some places have in the states."""
    wanted = mask_of(history, places)
    return sorted({ones(mask & wanted) for mask in masks})


def range_at(history, masks, places):
    numbers = numbers_at(history, masks, places)
    return (numbers[0], numbers[-1]) if numbers else None


def views(history, moment, places):
    """What the courses show: all pairs of the reports with which one agrees and the number that it has."""
    wanted = mask_of(history, places)
    layer = {(mask, frozenset(), None) for mask in all_masks(history) if agrees_with_start(history, mask)}
    for at, event in enumerate(history[1] + (None,)):
        if at == moment:
            layer = {(mask, agreed, ones(mask & wanted)) for mask, agreed, _ in layer}
        if event is None:
            break
        told = at in reports_in(history)
        later = {mask: [new for new in all_masks(history) if fits(history, event, mask, new)]
                 for mask in {mask for mask, _, _ in layer}}
        layer = {(new, agreed | {at} if told and agrees(history, event, mask) else agreed, number)
                 for mask, agreed, number in layer for new in later[mask]}
    return {(agreed, number) for _, agreed, number in layer}


def numbers_seen(seen, trusted):
    """The numbers of the courses that agree with the trusted reports, from all views."""
    return tuple(sorted({number for agreed, number in seen if agreed >= set(trusted)}))


def minimal_forcing(seen, trusted, candidates, allowed):
    """All minimal sets that force, by trying all subsets of the candidates."""
    forcing = [chosen for chosen in subsets(candidates)
               if set(numbers_seen(seen, trusted + chosen)) <= set(allowed)]
    return tuple(sorted(chosen for chosen in forcing if not any(set(part) < set(chosen) for part in forcing)))


def subsets(things):
    things = tuple(things)
    return itertools.chain.from_iterable(itertools.combinations(things, k) for k in range(len(things) + 1))


ODD_VALUES = (
    None, True, False, 0, 1, 2, -1, SIXTY, -SIXTY, "", "a", "A", "z", "abcdefgh", "abcdefghi", "a b", "mix", "new",
    "look", "pour", "range", "none", "clash", "?", (), [], ("a",), ("b", "a"), ("a", "b"), ["a", "b"], ("a", "a"),
    (0,), (True,), ((),), ((), ()), ("a", 1), ("a", True), tuple("abcdefg"),
)


def changed(chance, value, count):
    """The value with this many parts removed, added, exchanged or of another kind."""
    for _ in range(count):
        value = changed_once(chance, value)
    return value


def changed_once(chance, value):
    if isinstance(value, (tuple, list)) and value and chance.random() < 0.85:
        at = chance.randrange(len(value))
        if chance.random() < 0.75:
            return type(value)(list(value[:at]) + [changed_once(chance, value[at])] + list(value[at + 1:]))
        return changed_row(chance, value, at)
    if isinstance(value, int) and chance.random() < 0.5:
        return chance.choice((value + 1, value - 1, bool(value), str(value)))
    if isinstance(value, tuple) and chance.random() < 0.3:
        return list(value)
    return chance.choice(ODD_VALUES)


def changed_row(chance, value, at):
    parts = list(value)
    other = chance.randrange(len(parts))
    way = chance.randrange(5)
    if way == 0:
        del parts[at]
    elif way == 1:
        parts.insert(at, parts[other])
    elif way == 2:
        parts.insert(at, chance.choice(ODD_VALUES))
    else:
        parts[at], parts[other] = parts[other], parts[at]
    return type(value)(parts)


def outcome(call, *args, **named):
    """What a call returns, or the class and the fields of the error that it raises."""
    try:
        return ("returns", call(*args, **named))
    except ValueError as error:
        return (type(error).__name__, tuple(vars(error).items()))


def paper_error(word, at):
    return ("InvalidPaper", (("word", word), ("at", at)))


def same(one, other):
    """Whether two values are equal with equal kinds of all parts."""
    if type(one) is not type(other):
        return False
    if isinstance(one, (tuple, list)):
        return len(one) == len(other) and all(same(a, b) for a, b in zip(one, other))
    return one == other


def random_course(seed, history, trusted):
    """A course that agrees with the trusted reports, found by the search, or None."""
    chance = random.Random(seed)
    layers = possible_masks(history, trusted)
    if not layers[0]:
        return None
    masks = [chance.choice(layers[0])]
    for at in range(len(history[1])):
        masks.append(chance.choice([new for new in layers[at + 1] if is_step(history, trusted, at, masks[-1], new)]))
    return tuple(state_of(history, mask) for mask in masks)


def random_question(chance, history):
    """A moment and places: none, all or some."""
    names = names_of(history)
    moment = chance.choice((0, len(history[1]), chance.randint(0, len(history[1]))))
    share = chance.choice((0, 0.5, 0.5, 0.5, 1))
    return moment, tuple(name for name in names if chance.random() < share)


def random_level_prices(chance, history, size=2):
    prices = []
    for event in history[1]:
        if event[0] == "mix":
            prices.append((chance.randint(-size, size),) * len(event[2]))
        elif event[0] == "pour":
            prices.append((chance.randint(-size, size), chance.randint(-size, size)))
        else:
            prices.append(None)
    return tuple(prices)


def zero_prices(history):
    return random_level_prices(random, history, 0)


def question_errors(call, history):
    """Check that a function of a question raises the errors of its arguments in their order.

    call takes trusted, moment and places. Yield pairs of what it does and what it has to do.
    """
    last = len(history[1])
    for moment in (last, last + 1, SIXTY):
        for places in ((), ("a",), ("a", "h"), ("aa", "h"), ("h",)):
            for trusted in ((), reports_in(history), (-1,), (last,), (0, last), (-2, SIXTY), (SIXTY,)):
                expected = question_error(history, trusted, moment, places)
                if expected is not None:
                    yield outcome(call, trusted, moment, places), expected


def candidate_errors(call, history):
    """The same for a function that takes trusted, candidates, moment and places."""
    reports, last = reports_in(history), len(history[1])
    for moment in (last, last + 1):
        for places in ((), ("a", "h"), ("aa", "h")):
            for trusted in ((), reports[:1], (-1,), (0, last)):
                for candidates in ((), reports, (last,), (*reports, SIXTY), (-2, 0)):
                    expected = question_error(history, trusted, moment, places)
                    expected = expected or question_error(history, candidates, moment, places)
                    if expected is not None:
                        yield outcome(call, trusted, candidates, moment, places), expected


def question_error(history, trusted, moment, places):
    if moment > len(history[1]):
        return ("MomentOutOfRange", (("moment", moment),))
    for name in places:
        if name not in names_of(history):
            return ("UnknownName", (("name", name),))
    for position in trusted:
        if position not in reports_in(history):
            return ("NotAReport", (("position", position),))
    return None
