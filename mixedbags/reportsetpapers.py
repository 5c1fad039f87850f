"""Set papers."""

from mixedbags.arguments import check_candidates
from mixedbags.questions import numbers_between
from mixedbags.rangepapers import range_paper
from mixedbags.reports import joined
from mixedbags.strays import Strays, courses_without_each, forcing_choices


def report_set_paper(history, trusted, candidates, moment, places, low, high):
    """Return any set paper, or None if no set of candidates is sufficient."""
    check_candidates(history, trusted, candidates, moment, places)
    strays = Strays(history, trusted, moment, places, numbers_between(places, low, high))
    sets = forcing_choices(strays, candidates)
    if len(sets) == 0:
        return None
    chosen = sets[0]
    reason = range_paper(history, joined(trusted, chosen), moment, places)
    if reason[0] == "range":
        reason = ("within", reason[2], reason[4])
    return (chosen, reason, courses_without_each(strays, chosen))
