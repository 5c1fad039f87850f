"""Courses that agree with trusted reports."""

from mixedbags.arguments import check_question, check_trusted
from mixedbags.counting import mark_in
from mixedbags.flows import loose_flows
from mixedbags.networks import course_from
from mixedbags.reports import places_of
from mixedbags.stretches import marks_by_stretch, stretch_at


def any_course(history, trusted):
    """Return any course that agrees with the trusted reports, or None."""
    check_trusted(history, trusted)
    return _course_within(history, trusted, marks_by_stretch(history, trusted))


def course_through(history, trusted, moment, state):
    """Return any course that agrees with the trusted reports and has the state at the moment, or None."""
    check_question(history, trusted, moment, state)
    marks = marks_by_stretch(history, trusted)
    for place in places_of(history):
        stretch = stretch_at(history, place, moment)
        wanted = mark_in(state, place)
        marks[stretch] = tuple([mark for mark in marks[stretch] if mark == wanted])
    return _course_within(history, trusted, marks)


def _course_within(history, trusted, marks):
    flows, misses, _ = loose_flows(history, trusted, marks)
    if misses > 0:
        return None
    return course_from(history, flows)
