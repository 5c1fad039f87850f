"""The checker of hindsight papers."""

from mixedbags.arguments import check_candidates
from mixedbags.coursechecker import check_numbered_course
from mixedbags.errors import InvalidPaper
from mixedbags.kinds import are_numbers
from mixedbags.questions import number_of, numbers_outside
from mixedbags.reports import joined, without
from mixedbags.treechecker import check_tree, is_tree_shape


def lets_hindsight(history, trusted, candidates, moment, places, allowed, thing):
    """Return the reports of a hindsight paper. Raise InvalidPaper if any value is none."""
    check_candidates(history, trusted, candidates, moment, places)
    if not _is_hindsight_shape(thing):
        raise InvalidPaper("shape", -1)
    reports, trees, courses = thing
    if not _are_chosen(candidates, reports):
        raise InvalidPaper("reports", -1)
    missing = numbers_outside(places, allowed)
    if len(trees) != len(missing):
        raise InvalidPaper("trees", -1)
    for at, tree in enumerate(trees):
        _check_numbered_tree(history, joined(trusted, reports), moment, places, missing[at], tree, at)
    if len(courses) != len(reports):
        raise InvalidPaper("courses", -1)
    for at, course in enumerate(courses):
        check_numbered_course(history, joined(trusted, without(reports, at)), course, at)
        if number_of(course, moment, places) in allowed:
            raise InvalidPaper("number", at)
    return reports


def _is_hindsight_shape(thing):
    if not isinstance(thing, tuple) or len(thing) != 3:
        return False
    reports, trees, courses = thing
    if not are_numbers(reports) or not isinstance(trees, tuple) or not isinstance(courses, tuple):
        return False
    return all([is_tree_shape(tree) for tree in trees])


def _are_chosen(candidates, reports):
    if not all([reports[at - 1] < reports[at] for at in range(1, len(reports))]):
        return False
    return all([position in candidates for position in reports])


def _check_numbered_tree(history, trusted, moment, places, number, tree, index):
    try:
        check_tree(history, trusted, moment, places, number, tree)
    except InvalidPaper as error:
        raise InvalidPaper(error.word, (index, error.at)) from None
