"""Courses that agree with trusted reports."""

from mixedbags.arguments import check_question, check_reports
from mixedbags.counting import mark_in
from mixedbags.flows import course_within
from mixedbags.reports import places_of
from mixedbags.stretches import marks_by_stretch, marks_with


def any_course(history, trusted):
    """Return any course that agrees with the trusted reports, or None."""
    check_reports(history, trusted)
    return course_within(history, trusted, marks_by_stretch(history, trusted))


def course_through(history, trusted, moment, state):
    """Return any course that agrees with the trusted reports and has the state at the moment, or None."""
    check_question(history, trusted, moment, state)
    held = [(place, mark_in(state, place)) for place in places_of(history)]
    return course_within(history, trusted, marks_with(history, trusted, moment, held))
