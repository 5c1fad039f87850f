"""Hindsight papers."""

from mixedbags.arguments import check_candidates
from mixedbags.gaptrees import gap_tree
from mixedbags.questions import numbers_outside
from mixedbags.reports import joined
from mixedbags.strays import Strays, courses_without_each, forcing_choices


def hindsight_paper(history, trusted, candidates, moment, places, allowed):
    """Return any hindsight paper, or None if no set of candidates forces."""
    check_candidates(history, trusted, candidates, moment, places)
    strays = Strays(history, trusted, moment, places, allowed)
    sets = forcing_choices(strays, candidates)
    if len(sets) == 0:
        return None
    agreed = joined(trusted, sets[0])
    missing = numbers_outside(places, allowed)
    trees = tuple([gap_tree(history, agreed, moment, places, number) for number in missing])
    return (sets[0], trees, courses_without_each(strays, sets[0]))
