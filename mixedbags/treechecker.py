"""The checker of gap trees."""

from mixedbags.bounds import bound_within
from mixedbags.errors import InvalidPaper
from mixedbags.kinds import is_name
from mixedbags.papershapes import is_stretch_shape
from mixedbags.prices import are_level, are_prices
from mixedbags.reports import places_of
from mixedbags.stretches import marks_with


def is_tree_shape(thing):
    """Return whether any value is a gap tree by its shape."""
    if not isinstance(thing, tuple) or len(thing) < 2:
        return False
    if thing[0] == "fix":
        return len(thing) == 4 and is_name(thing[1]) and is_tree_shape(thing[2]) and is_tree_shape(thing[3])
    return len(thing) == 2 and thing[0] in ("above", "below", "clash")


def check_tree(history, trusted, moment, places, number, tree):
    """Raise InvalidPaper for the first node, in preorder, that is not as a gap tree for the number has it."""
    waiting = [(tree, ())]
    at = 0
    while waiting:
        node, fixes = waiting.pop()
        if node[0] == "fix":
            _check_fix(history, fixes, node[1], at)
            waiting.append((node[3], (*fixes, (node[1], 1))))
            waiting.append((node[2], (*fixes, (node[1], 0))))
        else:
            marks = marks_with(history, trusted, moment, fixes)
            _check_leaf(history, trusted, marks, moment, places, number, node, at)
        at += 1


def _check_fix(history, fixes, place, at):
    if place not in places_of(history) or place in [fixed for fixed, _ in fixes]:
        raise InvalidPaper("fix", at)


def _check_leaf(history, trusted, marks, moment, places, number, node, at):
    word, thing = node
    if word == "clash":
        if not is_stretch_shape(thing) or thing not in marks or len(marks[thing]) > 0:
            raise InvalidPaper("clash", at)
        return
    if not are_prices(history, thing) or not are_level(history, thing):
        raise InvalidPaper("prices", at)
    bound = bound_within(history, trusted, marks, moment, places, thing, word == "above")
    if bound is None or (word == "above" and bound >= number) or (word == "below" and bound <= number):
        raise InvalidPaper("bound", at)
