"""The checker of gap trees."""

from mixedbags.bounds import bound_within
from mixedbags.errors import InvalidPaper
from mixedbags.rangechecker import check_level
from mixedbags.stretches import marks_with
from mixedbags.trees import check_branch, check_clash, is_branching_shape, nodes_in_preorder

LEAVES = (("above", 2), ("below", 2), ("clash", 2))


def is_tree_shape(thing):
    """Return whether any value is a gap tree by its shape."""
    return is_branching_shape(thing, "fix", LEAVES)


def check_tree(history, trusted, moment, places, number, tree):
    """Raise InvalidPaper for the first node, in preorder, that is not as a gap tree for the number has it."""
    for at, (node, fixes) in enumerate(nodes_in_preorder(tree, "fix")):
        if node[0] == "fix":
            check_branch(history, node, fixes, at)
        else:
            marks = marks_with(history, trusted, moment, fixes)
            _check_leaf(history, trusted, marks, moment, places, number, node, at)


def _check_leaf(history, trusted, marks, moment, places, number, node, at):
    word, thing = node
    if word == "clash":
        check_clash(marks, thing, at)
        return
    check_level(history, thing, at)
    bound = bound_within(history, trusted, marks, moment, places, thing, word == "above")
    if bound is None or (word == "above" and bound >= number) or (word == "below" and bound <= number):
        raise InvalidPaper("bound", at)
