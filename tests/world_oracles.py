"""Worlds, logs, lines and desks, written once more in another way, for the tests."""

import re

from mixedbags.costs import least_cost
from mixedbags.moves import least_moved
from mixedbags.numbers import numbers_of
from mixedbags.ranges import range_of
from mixedbags.settling import fewest_looks, is_settled
from tests.oracles import event_places, is_event, is_mark, is_name, wrong_field
from tests.support import PERSONS, outcome, random_event, reports_in


def is_row(thing):
    if type(thing) is tuple and len(thing) == 2 and type(thing[0]) is str and thing[0] in ("trust", "distrust"):
        return is_name(thing[1])
    return is_event(thing)


def is_log(thing):
    if type(thing) is not tuple or not thing or type(thing[0]) is not tuple or len(thing[0]) != 2 or thing[0][0] != "world":
        return False
    start = thing[0][1]
    if type(start) is not tuple or not start or not all(type(pair) is tuple and len(pair) == 2 for pair in start):
        return False
    names = [pair[0] for pair in start]
    if not all(is_name(name) for name in names) or names != sorted(set(names)):
        return False
    return all(is_mark(pair[1]) for pair in start) and all(is_row(row) for row in thing[1:])


class SlowWorld:
    """A world that keeps a copy of all that it was before each row."""

    def __init__(self, start):
        self.start = start
        self.past = []
        self.now = ((), (), frozenset())

    def go(self, row):
        rows, events, trusted = self.now
        reason = self.reason(row)
        if reason:
            return ("InvalidEvent", (("event", row), ("reason", reason)))
        self.past.append(self.now)
        if row[0] == "trust":
            self.now = rows + (row,), events, trusted | {row[1]}
            return ("returns", row[1] not in trusted)
        if row[0] == "distrust":
            self.now = rows + (row,), events, trusted - {row[1]}
            return ("returns", row[1] in trusted)
        self.now = rows + (row,), events + (row,), trusted
        return ("returns", len(events) + 1)

    def reason(self, row):
        if not is_row(row):
            return "shape"
        if row[0] in ("trust", "distrust"):
            return None
        if not set(event_places(row)) <= set(dict(self.start)):
            return "place"
        return "full" if len(self.now[1]) == 14 else None

    def undo(self):
        if not self.past:
            return ("NothingToUndo", (("steps", 0),))
        row = self.now[0][-1]
        self.now = self.past.pop()
        return ("returns", row)

    def do_all(self, rows, keep):
        saved = list(self.past), self.now
        for row in rows:
            found = self.go(row)
            if found[0] != "returns":
                if not keep:
                    self.past, self.now = saved
                return found
        return ("returns", len(rows))

    def log(self):
        return (("world", self.start),) + self.now[0]

    def history(self):
        return (self.start, self.now[1])

    def persons(self):
        return tuple(sorted(self.now[2]))

    def trusted(self):
        return tuple(at for at in reports_in(self.history()) if self.now[1][at][1] in self.now[2])


def random_row(chance, names, kinds=("mix", "new", "look", "pour")):
    """A row of any of the six kinds."""
    if chance.random() < 0.25:
        return (chance.choice(("trust", "trust", "distrust")), chance.choice((*PERSONS, "zed")))
    return random_event(chance, names, kinds)


def row_field(text):
    """The field with which the line of a row is refused, or None."""
    words = text.split(" ")
    if words[0] not in ("trust", "distrust"):
        return wrong_field(text, None)
    tests = [True, len(words) > 1 and re.fullmatch("[a-z]{1,8}", words[1]) is not None, len(words) == 2]
    return None if all(tests) else tests.index(False)


def first_field(text):
    """The field with which a world line is refused, or None."""
    words = text.split(" ")
    if words[0] != "world":
        return 0
    if len(words) == 1 or not re.fullmatch("[a-z]{1,8}:[01?](,[a-z]{1,8}:[01?])*", words[1]):
        return 1
    names = re.findall("[a-z]+", words[1])
    if names != sorted(set(names)):
        return 1
    return None if len(words) == 2 else 2


def wrong_log_line(lines):
    """The line and the field with which the lines of a log are refused, or None."""
    if not lines:
        return 0, 0
    for line, text in enumerate(lines):
        field = row_field(text) if line else first_field(text)
        if field is not None:
            return line, field
    return None


def written_start(text):
    marks = {"0": 0, "1": 1, "?": None}
    return tuple((name, marks[mark]) for name, mark in re.findall("([a-z]+):(.)", text))


def written_row(text):
    kind, *words = text.split(" ")
    marks = {"0": 0, "1": 1, "?": None}
    if kind == "mix":
        return (kind, words[0], tuple(words[1].split(",")))
    if kind == "new":
        return (kind, words[0], marks[words[1]])
    if kind == "look":
        return (kind, words[0], words[1], marks[words[2]])
    if kind == "pour":
        return (kind, words[0], tuple(words[1].split(",")), int(words[2]))
    return (kind, words[0])


def written_line(row):
    marks = {0: "0", 1: "1", None: "?"}
    words = list(row)
    if row[0] in ("new", "look"):
        words[-1] = marks[row[-1]]
    if row[0] in ("mix", "pour"):
        words[2] = ",".join(row[2])
    return " ".join(str(word) for word in words)


def written_first(start):
    return "world " + ",".join(name + ":" + {0: "0", 1: "1", None: "?"}[mark] for name, mark in start)


NAMES = "(-|[a-z]{1,8}(?:,[a-z]{1,8})*)"
NUMBER = "(0|[1-9][0-9]{0,59})"
QUERIES = {
    f"range {NUMBER} {NAMES}": ("number", "names"), f"numbers {NUMBER} {NAMES}": ("number", "names"),
    f"moved {NAMES}": ("names",), f"cost {NAMES}": ("names",),
    f"settled {NAMES} {NUMBER} {NUMBER}": ("names", "number", "number"),
    f"looks {NAMES} {NUMBER} {NUMBER}": ("names", "number", "number"),
}


def query_of(text):
    """The word and the arguments of a query with arguments, or None."""
    for form, kinds in QUERIES.items():
        match = re.fullmatch(form, text)
        if match:
            parts = [int(part) if kind == "number" else tuple(part.split(",")) if part != "-" else ()
                     for kind, part in zip(kinds, match.groups())]
            names = parts[kinds.index("names")]
            if names != tuple(sorted(set(names))) or (len(parts) == 3 and parts[1] > parts[2]):
                return None
            return (text.split(" ")[0], *parts)
    return None


class SlowDesk:
    """A desk over a slow world. It returns the outcome of what is said."""

    def __init__(self):
        self.world = None

    def say(self, text):
        if "\n" not in text and first_field(text) is None:
            self.world = SlowWorld(written_start(text))
            return ("returns", "ok")
        query = query_of(text)
        is_known = text in ("undo", "count", "log", "trusted") or query or row_field(text) is None
        if self.world is None or not is_known:
            return ("InvalidRow", (("row", text),))
        kind, value = self.found(text, query)
        return (kind, shown(value) if kind == "returns" else value)

    def found(self, text, query):
        world = self.world
        if text == "undo":
            kind, row = world.undo()
            return kind, written_line(row) if kind == "returns" else row
        if text == "count":
            return "returns", len(world.log()) - 1
        if text == "log":
            return "returns", " / ".join([written_first(world.start)] + [written_line(row) for row in world.now[0]])
        if text == "trusted":
            return "returns", world.persons()
        if query is None:
            return world.go(written_row(text))
        return self.asked(world.history(), world.trusted(), *query)

    def asked(self, history, trusted, word, *parts):
        if word == "range":
            kind, value = outcome(range_of, history, trusted, *parts)
            return kind, "-".join(map(str, value)) if kind == "returns" and value is not None else value
        if word == "numbers":
            return outcome(numbers_of, history, trusted, *parts)
        if word == "moved":
            return outcome(least_moved, history, trusted, *parts)
        if word == "cost":
            priced = tuple(at for at in reports_in(history) if history[1][at][1] in parts[0] and at not in trusted)
            return outcome(least_cost, history, trusted, priced)
        return outcome(is_settled if word == "settled" else fewest_looks, history, trusted, *parts)


def shown(value):
    if value is None or value == ():
        return "-"
    if isinstance(value, bool):
        return "yes" if value else "no"
    if isinstance(value, tuple):
        return ",".join(str(part) for part in value)
    return str(value)
