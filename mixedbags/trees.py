"""Trees that branch by the mark of a place, as gap trees and plans do.

A branch is (word, place, plain, marked). All other nodes are leaves.
"""

from mixedbags.errors import InvalidPaper
from mixedbags.kinds import is_name
from mixedbags.papershapes import is_stretch_shape
from mixedbags.reports import places_of


def is_branching_shape(thing, word, leaves):
    """Return whether any value is a tree by its shape. leaves has the word and the length of each form of leaf."""
    if not isinstance(thing, tuple) or len(thing) == 0:
        return False
    if thing[0] == word and len(thing) == 4:
        are_trees = all([is_branching_shape(part, word, leaves) for part in thing[2:]])
        return is_name(thing[1]) and are_trees
    return (thing[0], len(thing)) in leaves


def nodes_in_preorder(tree, word):
    """Return a list of all nodes, each with the pairs (place, mark) of the branches above it."""
    nodes = []
    waiting = [(tree, ())]
    while waiting:
        node, way = waiting.pop()
        nodes.append((node, way))
        if node[0] == word:
            waiting.append((node[3], (*way, (node[1], 1))))
            waiting.append((node[2], (*way, (node[1], 0))))
    return nodes


def check_branch(history, node, way, at):
    """Raise InvalidPaper if the place of a branch is unknown, or stands in a branch above it."""
    if node[1] not in places_of(history) or node[1] in [place for place, _ in way]:
        raise InvalidPaper(node[0], at)


def check_clash(marks, thing, at):
    """Raise InvalidPaper if any value is no stretch that has no mark left."""
    if not is_stretch_shape(thing) or thing not in marks or len(marks[thing]) > 0:
        raise InvalidPaper("clash", at)
