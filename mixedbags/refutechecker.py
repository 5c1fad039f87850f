"""The checker of refuting trees."""

from mixedbags.arguments import check_candidates
from mixedbags.counting import disagreeing
from mixedbags.coursechecker import check_numbered_course
from mixedbags.errors import InvalidPaper
from mixedbags.kinds import is_number
from mixedbags.questions import number_of
from mixedbags.reports import joined


def lets_refuted(history, trusted, candidates, moment, places, allowed, size, thing):
    """Return the number of nodes of a refuting tree. Raise InvalidPaper if any value is none."""
    check_candidates(history, trusted, candidates, moment, places)
    if not _is_node_shape(thing):
        raise InvalidPaper("shape", -1)
    waiting = [(thing, ())]
    at = 0
    while waiting:
        node, way = waiting.pop()
        course, children = node
        check_numbered_course(history, joined(trusted, way), course, at)
        if number_of(course, moment, places) in allowed:
            raise InvalidPaper("number", at)
        expected = ()
        if len(way) < size:
            expected = disagreeing(history, course, candidates)
        if tuple([candidate for candidate, _ in children]) != expected:
            raise InvalidPaper("children", at)
        for candidate, child in reversed(children):
            waiting.append((child, (*way, candidate)))
        at += 1
    return at


def _is_node_shape(thing):
    if not isinstance(thing, tuple) or len(thing) != 2 or not isinstance(thing[1], tuple):
        return False
    return all([_is_child_shape(child) for child in thing[1]])


def _is_child_shape(thing):
    return isinstance(thing, tuple) and len(thing) == 2 and is_number(thing[0]) and _is_node_shape(thing[1])
