"""Why papers about the last moment are refused, written once more in another way, for the tests."""

import functools

from tests.oracles import (
    are_level, are_prices, course_reason, is_int, is_name, is_states, is_stretch, marks_held, slow_bound, slow_stretches,
)
from tests.support import names_of


def is_nearer_step(before, after, goal):
    """Whether a step leads from one state to another, and comes nearer to a third one."""
    gained, lost = set(after) - set(before), set(before) - set(after)
    if (len(gained), len(lost)) not in ((1, 0), (0, 1), (1, 1)):
        return False
    return len(set(after) ^ set(goal)) < len(set(before) ^ set(goal))


def steps_reason(history, trusted, one, other, thing):
    """The word and the position with which a value is refused as a step paper, or None."""
    if type(thing) is not tuple or not thing or not all(is_states(course) for course in thing):
        return ("shape", -1)
    for j, course in enumerate(thing):
        if course_reason(history, trusted, course) is not None:
            return ("course", j)
    if thing[0][-1] != one:
        return ("first", -1)
    for j in range(1, len(thing)):
        if not is_nearer_step(thing[j - 1][-1], thing[j][-1], other):
            return ("step", j)
    return None if thing[-1][-1] == other else ("last", -1)


def slow_fewest(states, names, places, low, high):
    """The fewest looks that settle the statement, by trying all trees of looks."""
    @functools.cache
    def fewest(held, left):
        if len({low <= len(set(state) & set(places)) <= high for state in held}) < 2:
            return 0
        return 1 + min(max(fewest(frozenset(state for state in held if (name in state) == is_marked), left - {name})
                           for is_marked in (False, True)) for name in left)
    return fewest(frozenset(states), frozenset(names))


def is_plan_shape(thing):
    if type(thing) is not tuple or not thing or type(thing[0]) is not str:
        return False
    if thing[0] == "look":
        return len(thing) == 4 and is_name(thing[1]) and is_plan_shape(thing[2]) and is_plan_shape(thing[3])
    return len(thing) == {"yes": 3, "less": 2, "greater": 2, "never": 2, "clash": 2}.get(thing[0])


def plan_nodes(plan, held=()):
    """The nodes of a plan in preorder, each with the answers above it."""
    found = [(plan, held)]
    if plan[0] == "look":
        for mark in (0, 1):
            found += plan_nodes(plan[2 + mark], held + ((plan[1], mark),))
    return found


def plan_depth(plan):
    return 1 + max(plan_depth(plan[2]), plan_depth(plan[3])) if plan[0] == "look" else 0


def plan_reason(history, trusted, places, low, high, thing):
    """The word and the node with which a value is refused as a plan, or None."""
    if not is_plan_shape(thing):
        return ("shape", -1)
    for at, (node, held) in enumerate(plan_nodes(thing)):
        word = leaf_reason(history, trusted, places, low, high, node, held)
        if word is not None:
            return (word, at)
    return None


def leaf_reason(history, trusted, places, low, high, node, held):
    last = len(history[1])
    if node[0] == "look":
        return "look" if node[1] not in names_of(history) or node[1] in dict(held) else None
    if node[0] == "clash":
        is_known = is_stretch(node[1]) and node[1] in slow_stretches(history)
        return None if is_known and not marks_held(history, trusted, last, node[1], held) else "clash"
    if not all(are_prices(history, prices) and are_level(history, prices) for prices in node[1:]):
        return "prices"

    def bound(prices, is_upper, asked=places):
        return slow_bound(history, trusted, last, asked, prices, is_upper, held)
    if bound(node[1], True) is None:
        return "bound"
    is_right = {
        "yes": lambda: bound(node[1], False) >= low and bound(node[-1], True) <= high,
        "less": lambda: bound(node[1], True) < low,
        "greater": lambda: bound(node[1], False) > high,
        "never": lambda: bound(node[1], False, ()) > 0,
    }[node[0]]()
    return None if is_right else "bound"


def is_table_shape(thing):
    return type(thing) is tuple and all(is_row_shape(row) for row in thing)


def is_row_shape(row):
    if type(row) is not tuple or len(row) != 4 or type(row[0]) is not tuple or type(row[3]) is not tuple:
        return False
    pairs = all(type(pair) is tuple and len(pair) == 2 and is_name(pair[0]) and is_bit(pair[1]) for pair in row[0])
    return pairs and is_states(row[1]) and is_states(row[2]) and all(is_bit(mark) for mark in row[3])


def is_bit(thing):
    return is_int(thing) and thing in (0, 1)


def table_reason(history, trusted, places, low, high, size, thing):
    """The word and the row with which a value is refused as an answer table, or None."""
    if not is_table_shape(thing):
        return ("shape", -1)
    if not thing or thing[0][0] != ():
        return ("first", -1)
    names = names_of(history)
    every = [row[0] for row in thing]
    for r, (answers, within, outside, marks) in enumerate(thing):
        looked = [name for name, _ in answers]
        if looked != sorted(set(looked) & set(names)) or len(looked) > size or (r and not every[r - 1] < answers):
            return ("answers", r)
        for word, course, wanted in (("within", within, True), ("outside", outside, False)):
            if course_reason(history, trusted, course) is not None:
                return (word, r)
            if any((name in course[-1]) != (mark == 1) for name, mark in answers):
                return (word, r)
            if (low <= len(set(course[-1]) & set(places)) <= high) != wanted:
                return (word, r)
        left = [] if len(answers) == size else [name for name in names if name not in looked]
        if len(marks) != len(left):
            return ("marks", r)
        if any(tuple(sorted(answers + ((name, mark),))) not in every for name, mark in zip(left, marks)):
            return ("marks", r)
    return None
