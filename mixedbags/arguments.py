"""The errors that functions raise for their arguments before all else."""

from mixedbags.errors import MomentOutOfRange, NotAReport, UnknownName
from mixedbags.reports import is_report_index, places_of


def check_moment(history, moment):
    """Raise MomentOutOfRange if the history has no such moment."""
    if moment > len(history[1]):
        raise MomentOutOfRange(moment)


def check_places(history, places):
    """Raise UnknownName for the first name that is not a place of the history."""
    known = places_of(history)
    for name in places:
        if name not in known:
            raise UnknownName(name)


def check_reports(history, positions):
    """Raise NotAReport for the first position that is not the index of a report."""
    for position in positions:
        if not is_report_index(history, position):
            raise NotAReport(position)


def check_question(history, trusted, moment, places):
    """Raise the first error of a question that is asked with trusted reports."""
    check_moment(history, moment)
    check_places(history, places)
    check_reports(history, trusted)


def check_candidates(history, trusted, candidates, moment, places):
    """Raise the first error of a question that is asked with trusted reports and candidates."""
    check_question(history, trusted, moment, places)
    check_reports(history, candidates)


def check_priced(history, trusted, priced):
    """Raise NotAReport for the first of the trusted, then of the priced reports that is none."""
    check_reports(history, trusted)
    check_reports(history, priced)


def check_last_states(history, trusted, one, other):
    """Raise the first error of two states at the last moment, given trusted reports."""
    check_places(history, one)
    check_places(history, other)
    check_reports(history, trusted)


def check_statement(history, trusted, places):
    """Raise the first error of a statement about the last moment, given trusted reports."""
    check_places(history, places)
    check_reports(history, trusted)
