"""Worlds: histories that grow row by row, and persons who are trusted."""

from mixedbags.costs import least_cost
from mixedbags.errors import InvalidEvent, NothingToUndo
from mixedbags.kinds import is_event
from mixedbags.moves import least_moved
from mixedbags.numbers import numbers_of
from mixedbags.ranges import range_of
from mixedbags.reports import places_in, places_of, reports_by
from mixedbags.rowkinds import are_same, is_row
from mixedbags.rowtexts import log_lines
from mixedbags.settling import fewest_looks, is_settled

MOST_EVENTS = 14


class World:
    """A world with a start, and without rows at first."""

    def __init__(self, start):
        self._start = tuple([(place, mark) for place, mark in start])
        # All else is worked out from the rows, so that to take back a row is to remove it.
        self._rows = []
        self._started = 0
        self._finished = 0

    def mix_bags(self, person, places):
        """Mix the bags at the places and return the number of events."""
        return self.go(("mix", person, places))

    def new_bag(self, place, mark):
        """Put a new bag with this mark at the place and return the number of events."""
        return self.go(("new", place, mark))

    def look_at(self, person, place, mark):
        """Report the mark of the bag at the place and return the number of events."""
        return self.go(("look", person, place, mark))

    def pour_out(self, person, places, number):
        """Report how many bags of the places are marked and return the number of events."""
        return self.go(("pour", person, places, number))

    def trust(self, person):
        """Trust the person and return whether the trusted persons changed."""
        return self.go(("trust", person))

    def distrust(self, person):
        """Trust the person no longer and return whether the trusted persons changed."""
        return self.go(("distrust", person))

    def go(self, row):
        """Apply a row of any kind and return what the method for it returns."""
        self._started += 1
        try:
            return self._applied(row)
        finally:
            self._finished += 1

    def _applied(self, row):
        reason = self._reason_against(row)
        if reason is not None:
            raise InvalidEvent(row, reason)
        before = self.persons_trusted()
        self._rows.append(row)
        if is_event(row):
            return len(self._events())
        return self.persons_trusted() != before

    def _reason_against(self, row):
        if not is_row(row):
            return "shape"
        if not is_event(row):
            return None
        known = places_of(self.history_now())
        if not all([place in known for place in places_in(row)]):
            return "place"
        if len(self._events()) >= MOST_EVENTS:
            return "full"
        return None

    def _events(self):
        return [row for row in self._rows if is_event(row)]

    def undo(self):
        """Remove the last row and its effect and return it."""
        self._started += 1
        try:
            if len(self._rows) == 0:
                raise NothingToUndo(0)
            return self._rows.pop()
        finally:
            self._finished += 1

    def do_all(self, rows, *, keep=False):
        """Apply the rows and return their number. If one fails, only keep leaves those before it."""
        self._started += 1
        many = len(self._rows)
        try:
            for row in rows:
                self._applied(row)
        except InvalidEvent:
            if not keep:
                del self._rows[many:]
            raise
        finally:
            self._finished += 1
        return len(rows)

    def history_now(self):
        """Return the history up to now."""
        return (self._start, tuple(self._events()))

    def persons_trusted(self):
        """Return the ascending tuple of the trusted persons."""
        trusted = {}
        for row in self._rows:
            if row[0] == "trust":
                trusted[row[1]] = True
            elif row[0] == "distrust":
                trusted.pop(row[1], None)
        return tuple(sorted(trusted))

    def trusted_now(self):
        """Return the ascending tuple of the trusted reports."""
        return reports_by(self.history_now(), self.persons_trusted())

    def range_now(self, moment, places):
        """Return the range of the question, or None."""
        return range_of(self.history_now(), self.trusted_now(), moment, places)

    def numbers_now(self, moment, places):
        """Return the ascending tuple of the numbers of the question."""
        return numbers_of(self.history_now(), self.trusted_now(), moment, places)

    def moved_now(self, persons):
        """Return the least number of marks that the persons moved, or None."""
        return least_moved(self.history_now(), self.trusted_now(), persons)

    def cost_now(self, persons):
        """Return the least cost of the reports of these persons that are not trusted, or None."""
        trusted = self.trusted_now()
        priced = tuple([at for at in reports_by(self.history_now(), persons) if at not in trusted])
        return least_cost(self.history_now(), trusted, priced)

    def is_settled_now(self, places, low, high):
        """Return whether the statement is settled."""
        return is_settled(self.history_now(), self.trusted_now(), places, low, high)

    def fewest_now(self, places, low, high):
        """Return the fewest further looks that settle the statement."""
        return fewest_looks(self.history_now(), self.trusted_now(), places, low, high)

    def log(self):
        """Return the log: the start and the rows."""
        return (("world", self._start), *self._rows)

    def counts(self):
        """Return the numbers of started and of finished operations."""
        return (self._started, self._finished)

    def __len__(self):
        return len(self._rows)

    def __str__(self):
        return " / ".join(log_lines(self.log()))

    def __eq__(self, other):
        return isinstance(other, World) and are_same((self._start, *self._rows), (other._start, *other._rows))

    def __ne__(self, other):
        return not self == other
