"""The checker of course papers."""

from mixedbags.arguments import check_reports
from mixedbags.counting import agrees_with_report, mark_in, number_in, rest_of
from mixedbags.errors import InvalidPaper
from mixedbags.kinds import is_names, is_places
from mixedbags.reports import places_of


def lets_course(history, trusted, thing):
    """Return the number of states if any value is a course that agrees with the trusted reports."""
    check_reports(history, trusted)
    if not is_course_shape(thing):
        raise InvalidPaper("shape", -1)
    if len(thing) != len(history[1]) + 1:
        raise InvalidPaper("many", -1)
    _check_states(history, thing)
    if not _agrees_with_start(history, thing[0]):
        raise InvalidPaper("start", -1)
    _check_events(history, trusted, thing)
    return len(thing)


def is_agreeing_course(history, trusted, thing):
    """Return whether any value is a course that agrees with the trusted reports."""
    try:
        lets_course(history, trusted, thing)
    except InvalidPaper:
        return False
    return True


def check_numbered_course(history, trusted, thing, index):
    """Raise the errors of lets_course with (index, at) as their positions."""
    try:
        lets_course(history, trusted, thing)
    except InvalidPaper as error:
        raise InvalidPaper(error.word, (index, error.at)) from None


def is_course_shape(thing):
    """Return whether any value is a tuple of tuples of names."""
    return isinstance(thing, tuple) and all([is_names(state) for state in thing])


def _check_states(history, course):
    known = {place: True for place in places_of(history)}
    for at, state in enumerate(course):
        if not is_places(state) or not all([place in known for place in state]):
            raise InvalidPaper("state", at)


def _agrees_with_start(history, state):
    return all([mark is None or mark_in(state, place) == mark for place, mark in history[0]])


def _check_events(history, trusted, course):
    for at, event in enumerate(history[1]):
        if not _fits(event, course[at], course[at + 1]):
            raise InvalidPaper("event", at)
        if at in trusted and not agrees_with_report(event, course[at]):
            raise InvalidPaper("report", at)


def _fits(event, before, after):
    if event[0] == "look":
        return before == after
    if event[0] == "new":
        if event[2] is not None and mark_in(after, event[1]) != event[2]:
            return False
        return rest_of(before, (event[1],)) == rest_of(after, (event[1],))
    if number_in(before, event[2]) != number_in(after, event[2]):
        return False
    return rest_of(before, event[2]) == rest_of(after, event[2])
