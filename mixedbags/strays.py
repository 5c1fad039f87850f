"""Stray courses: those in which a question has a number that is not allowed."""

from mixedbags.choosing import choices
from mixedbags.counting import disagreeing, number_in
from mixedbags.courses import course_through
from mixedbags.reports import joined, without
from mixedbags.states import possible_states


class Strays:
    """Stray courses that agree with the trusted reports. The found ones are kept, for they serve many sets."""

    def __init__(self, history, trusted, moment, places, allowed):
        self.history = history
        self.trusted = trusted
        self.moment = moment
        self.places = places
        self.allowed = allowed
        self.found = []

    def one_with(self, chosen):
        """Return any stray course that agrees with all the chosen reports as well, or None."""
        for course in self.found:
            if len(disagreeing(self.history, course, chosen)) == 0:
                return course
        course = self._searched(joined(self.trusted, chosen))
        if course is not None:
            self.found.append(course)
        return course

    def _searched(self, trusted):
        for state in possible_states(self.history, trusted, self.moment):
            if number_in(state, self.places) not in self.allowed:
                return course_through(self.history, trusted, self.moment, state)
        return None


def forcing_choices(strays, candidates):
    """Return all minimal sets of candidates with which no course is stray, smaller ones first."""
    forcing = []
    for size in range(len(candidates) + 1):
        for chosen in choices(candidates, size):
            if not _has_part(chosen, forcing) and strays.one_with(chosen) is None:
                forcing.append(chosen)
    return forcing


def _has_part(chosen, sets):
    return any([all([at in chosen for at in part]) for part in sets])


def courses_without_each(strays, chosen):
    """Return for each report of a minimal set a stray course that agrees with all the other ones."""
    return tuple([strays.one_with(without(chosen, at)) for at in range(len(chosen))])
