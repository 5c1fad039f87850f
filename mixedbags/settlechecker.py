"""The checkers of plans and of answer tables."""

from mixedbags.answers import answers_with, has_answers, places_left
from mixedbags.arguments import check_statement
from mixedbags.bounds import bound_within
from mixedbags.counting import number_in
from mixedbags.coursechecker import is_agreeing_course, is_course_shape
from mixedbags.errors import InvalidPaper
from mixedbags.kinds import is_name, is_places, is_seen_mark
from mixedbags.rangechecker import check_level
from mixedbags.reports import places_of
from mixedbags.stretches import marks_with
from mixedbags.trees import check_branch, check_clash, is_branching_shape, nodes_in_preorder

LEAVES = (("yes", 3), ("less", 2), ("greater", 2), ("never", 2), ("clash", 2))


def lets_plan(history, trusted, places, low, high, thing):
    """Return the depth of a plan. Raise InvalidPaper if any value is none."""
    check_statement(history, trusted, places)
    if not is_branching_shape(thing, "look", LEAVES):
        raise InvalidPaper("shape", -1)
    depth = 0
    for at, (node, answers) in enumerate(nodes_in_preorder(thing, "look")):
        if node[0] == "look":
            check_branch(history, node, answers, at)
        else:
            marks = marks_with(history, trusted, len(history[1]), answers)
            _check_leaf(history, trusted, marks, places, low, high, node, at)
            depth = max(depth, len(answers))
    return depth


def _check_leaf(history, trusted, marks, places, low, high, node, at):
    if node[0] == "clash":
        check_clash(marks, node[1], at)
        return
    for prices in node[1:]:
        check_level(history, prices, at)
    if not _is_shown(history, trusted, marks, places, low, high, node):
        raise InvalidPaper("bound", at)


def _is_shown(history, trusted, marks, places, low, high, node):
    """Return whether the bounds by the prices of the node are as the node says."""
    if not all([marks[stretch] for stretch in marks]):
        return False
    last = len(history[1])
    if node[0] == "never":
        return bound_within(history, trusted, marks, last, (), node[1], False) > 0
    if node[0] == "less":
        return bound_within(history, trusted, marks, last, places, node[1], True) < low
    least = bound_within(history, trusted, marks, last, places, node[1], False)
    if node[0] == "greater":
        return least > high
    return least >= low and bound_within(history, trusted, marks, last, places, node[2], True) <= high


def lets_answers(history, trusted, places, low, high, size, thing):
    """Return the number of rows of an answer table. Raise InvalidPaper if any value is none."""
    check_statement(history, trusted, places)
    if not isinstance(thing, tuple) or not all([_is_row_shape(row) for row in thing]):
        raise InvalidPaper("shape", -1)
    if len(thing) == 0 or len(thing[0][0]) > 0:
        raise InvalidPaper("first", -1)
    known = {row[0]: True for row in thing}
    for at, (answers, within, outside, marks) in enumerate(thing):
        if not _are_answers(history, size, answers) or (at > 0 and answers <= thing[at - 1][0]):
            raise InvalidPaper("answers", at)
        if not _has_number(history, trusted, answers, within, places, low, high, True):
            raise InvalidPaper("within", at)
        if not _has_number(history, trusted, answers, outside, places, low, high, False):
            raise InvalidPaper("outside", at)
        if not _leads_on(history, size, answers, marks, known):
            raise InvalidPaper("marks", at)
    return len(thing)


def _is_row_shape(thing):
    if not isinstance(thing, tuple) or len(thing) != 4:
        return False
    answers, within, outside, marks = thing
    if not isinstance(answers, tuple) or not isinstance(marks, tuple):
        return False
    if not is_course_shape(within) or not is_course_shape(outside):
        return False
    return all([_is_answer(answer) for answer in answers]) and all([is_seen_mark(mark) for mark in marks])


def _is_answer(thing):
    return isinstance(thing, tuple) and len(thing) == 2 and is_name(thing[0]) and is_seen_mark(thing[1])


def _are_answers(history, size, answers):
    names = tuple([place for place, _ in answers])
    known = places_of(history)
    return len(answers) <= size and is_places(names) and all([name in known for name in names])


def _has_number(history, trusted, answers, course, places, low, high, is_within):
    """Return whether a course has the answers, and a number that is or is not from low to high."""
    if not is_agreeing_course(history, trusted, course) or not has_answers(course[-1], answers):
        return False
    return (low <= number_in(course[-1], places) <= high) == is_within


def _leads_on(history, size, answers, marks, known):
    """Return whether the marks of a row lead to known answers for each further look that the size leaves."""
    left = []
    if len(answers) < size:
        left = places_left(history, answers)
    if len(marks) != len(left):
        return False
    return all([answers_with(answers, place, mark) in known for place, mark in zip(left, marks)])
