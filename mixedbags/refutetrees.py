"""Refuting trees: they show that no small set of reports forces a question."""

from mixedbags.arguments import check_candidates
from mixedbags.counting import disagreeing
from mixedbags.reports import joined
from mixedbags.strays import Strays, forcing_choices


def fewest_forcing(history, trusted, candidates, moment, places, allowed):
    """Return the number of reports of a smallest forcing set of candidates, or None if no set forces."""
    check_candidates(history, trusted, candidates, moment, places)
    sets = forcing_choices(Strays(history, trusted, moment, places, allowed), candidates)
    if len(sets) == 0:
        return None
    return len(sets[0])


def refute_tree(history, trusted, candidates, moment, places, allowed, size):
    """Return any refuting tree of this size, or None if there is none."""
    check_candidates(history, trusted, candidates, moment, places)
    strays = Strays(history, trusted, moment, places, allowed)
    return _node_below(history, strays, candidates, (), size)


def _node_below(history, strays, candidates, way, size):
    """Return a tree of this size with the candidates on the way trusted, or None if a set forces."""
    course = strays.one_with(way)
    if course is None:
        return None
    if size == 0:
        return (course, ())
    children = []
    for candidate in disagreeing(history, course, candidates):
        node = _node_below(history, strays, candidates, joined(way, (candidate,)), size - 1)
        if node is None:
            # Then few enough candidates force, so that no tree has the size, whatever courses it has.
            return None
        children.append((candidate, node))
    return (course, tuple(children))
