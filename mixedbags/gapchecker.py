"""The checker of number papers."""

from mixedbags.arguments import check_question
from mixedbags.coursechecker import lets_course
from mixedbags.errors import InvalidPaper
from mixedbags.questions import number_of
from mixedbags.treechecker import check_tree, is_tree_shape


def lets_number(history, trusted, moment, places, number, thing):
    """Return "occurs" or "gap", whichever any value shows of the number. Raise InvalidPaper otherwise."""
    check_question(history, trusted, moment, places)
    if not _is_number_shape(thing):
        raise InvalidPaper("shape", -1)
    if thing[0] == "gap":
        check_tree(history, trusted, moment, places, number, thing[1])
        return "gap"
    lets_course(history, trusted, thing[1])
    if number_of(thing[1], moment, places) != number:
        raise InvalidPaper("number", -1)
    return "occurs"


def _is_number_shape(thing):
    if not isinstance(thing, tuple) or len(thing) != 2:
        return False
    return thing[0] == "occurs" or (thing[0] == "gap" and is_tree_shape(thing[1]))
