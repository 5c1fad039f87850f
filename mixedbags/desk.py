"""A desk: it is told rows and asked queries as strings, and answers with strings."""

from mixedbags.deskwords import query_said, row_said, start_said
from mixedbags.errors import InvalidRow
from mixedbags.kinds import is_event
from mixedbags.rowtexts import row_line
from mixedbags.worlds import World


class Desk:
    """A desk that has no world until one is said."""

    def __init__(self):
        self._world = None
        self._started = 0
        self._finished = 0

    def say(self, row):
        """Return the answer to what is said. Raise InvalidRow if it is nothing that can be said now."""
        self._started += 1
        try:
            return self._answered(row)
        finally:
            self._finished += 1

    def counts(self):
        """Return the numbers of started and of finished operations."""
        return (self._started, self._finished)

    def _answered(self, row):
        start = start_said(row)
        if start is not None:
            self._world = World(start)
            return "ok"
        if self._world is None:
            raise InvalidRow(row)
        told = row_said(row)
        if told is not None:
            return _answer_to_row(self._world, told)
        query = query_said(row)
        if query is None:
            raise InvalidRow(row)
        return _answer_to_query(self._world, query)


def _answer_to_row(world, row):
    result = world.go(row)
    if is_event(row):
        return str(result)
    return _yes_or_no(result)


def _answer_to_query(world, query):
    word, *rest = query
    if word == "undo":
        return row_line(world.undo())
    if word == "count":
        return str(len(world))
    if word == "log":
        return str(world)
    if word == "trusted":
        return _elements(world.persons_trusted())
    if word == "range":
        return _span(world.range_now(*rest))
    if word == "numbers":
        return _elements(world.numbers_now(*rest))
    if word == "moved":
        return _number(world.moved_now(*rest))
    if word == "cost":
        return _number(world.cost_now(*rest))
    if word == "settled":
        return _yes_or_no(world.is_settled_now(*rest))
    return str(world.fewest_now(*rest))


def _yes_or_no(truth):
    if truth:
        return "yes"
    return "no"


def _number(number):
    if number is None:
        return "-"
    return str(number)


def _span(numbers):
    if numbers is None:
        return "-"
    return f"{numbers[0]}-{numbers[1]}"


def _elements(things):
    if len(things) == 0:
        return "-"
    return ",".join([str(thing) for thing in things])
