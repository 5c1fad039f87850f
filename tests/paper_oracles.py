"""Why papers about sets and numbers are refused, written once more in another way, for the tests."""

from tests.oracles import (
    are_level, are_prices, course_reason, is_int, is_name, is_price_tuple, is_states, is_stretch, marks_held,
    range_reason, slow_bound, slow_stretches,
)
from tests.support import agrees, mask_of, names_of


def is_numbers(thing):
    return type(thing) is tuple and all(is_int(part) and part >= 0 for part in thing)


def is_set_shape(thing):
    if type(thing) is not tuple or len(thing) != 3 or not is_numbers(thing[0]):
        return False
    reason, courses = thing[1:]
    if type(reason) is not tuple or not reason or type(reason[0]) is not str:
        return False
    wanted = {"within": (is_price_tuple, is_price_tuple), "none": (is_price_tuple,), "clash": (is_stretch,)}
    tests = wanted.get(reason[0])
    if tests is None or len(reason) != len(tests) + 1 or not all(f(part) for f, part in zip(tests, reason[1:])):
        return False
    return type(courses) is tuple and all(is_states(course) for course in courses)


def set_reason(history, trusted, candidates, moment, places, low, high, thing):
    """The word and the position with which a value is refused as a set paper, or None."""
    if not is_set_shape(thing):
        return ("shape", -1)
    chosen, reason, courses = thing
    for at in range(len(chosen)):
        if chosen[at] not in candidates or chosen[at] <= max(chosen[:at], default=-1):
            return ("chosen", at)
    agreed = set(trusted) | set(chosen)
    why = reason_reason(history, agreed, moment, places, low, high, reason)
    if why is not None:
        return why
    if len(courses) != len(chosen):
        return ("many", -1)
    for at, course in enumerate(courses):
        others = set(trusted) | (set(chosen) - {chosen[at]})
        if course_reason(history, others, course) is not None:
            return ("course", at)
        if len(set(course[moment]) & set(places)) in range(low, high + 1):
            return ("number", at)
    return None


def reason_reason(history, agreed, moment, places, low, high, reason):
    if reason[0] != "within":
        return range_reason(history, agreed, moment, places, reason)
    for at in (0, 1):
        if not are_prices(history, reason[at + 1]) or not are_level(history, reason[at + 1]):
            return ("prices", at)
    for at in (0, 1):
        bound = slow_bound(history, agreed, moment, places, reason[at + 1], at == 1)
        if bound is None or (bound < low if at == 0 else bound > high):
            return ("bound", at)
    return None


def is_tree_shape(thing):
    if type(thing) is not tuple or len(thing) not in (2, 4) or type(thing[0]) is not str:
        return False
    if len(thing) == 2:
        return thing[0] in ("above", "below", "clash")
    return thing[0] == "fix" and is_name(thing[1]) and is_tree_shape(thing[2]) and is_tree_shape(thing[3])


def nodes_of(tree, held=()):
    """The nodes of a tree in preorder, each with the marks that the fixes above it gave."""
    found = [(tree, held)]
    if tree[0] == "fix":
        for mark in (0, 1):
            found += nodes_of(tree[2 + mark], held + ((tree[1], mark),))
    return found


def tree_reason(history, trusted, moment, places, number, tree):
    """The word and the node with which a gap tree is refused, or None."""
    for at, (node, held) in enumerate(nodes_of(tree)):
        if node[0] == "fix":
            if node[1] not in names_of(history) or node[1] in dict(held):
                return ("fix", at)
        elif node[0] == "clash":
            if not is_stretch(node[1]) or node[1] not in slow_stretches(history):
                return ("clash", at)
            if marks_held(history, trusted, moment, node[1], held):
                return ("clash", at)
        elif not are_prices(history, node[1]) or not are_level(history, node[1]):
            return ("prices", at)
        else:
            bound = slow_bound(history, trusted, moment, places, node[1], node[0] == "above", held)
            if bound is None or not (bound < number if node[0] == "above" else bound > number):
                return ("bound", at)
    return None


def number_reason(history, trusted, moment, places, number, thing):
    """The word and the position with which a value is refused as a number paper, or None."""
    if type(thing) is not tuple or len(thing) != 2 or thing[0] not in ("occurs", "gap"):
        return ("shape", -1)
    if thing[0] == "gap":
        if not is_tree_shape(thing[1]):
            return ("shape", -1)
        return tree_reason(history, trusted, moment, places, number, thing[1])
    why = course_reason(history, trusted, thing[1])
    if why is None and len(set(thing[1][moment]) & set(places)) != number:
        return ("number", -1)
    return why


def hindsight_reason(history, trusted, candidates, moment, places, allowed, thing):
    """The word and the position with which a value is refused as a hindsight paper, or None."""
    if type(thing) is not tuple or len(thing) != 3 or not is_numbers(thing[0]):
        return ("shape", -1)
    reports, trees, courses = thing
    if type(trees) is not tuple or not all(is_tree_shape(tree) for tree in trees) or type(courses) is not tuple:
        return ("shape", -1)
    if list(reports) != sorted(set(reports) & set(candidates)):
        return ("reports", -1)
    missing = sorted(set(range(len(places) + 1)) - set(allowed))
    if len(trees) != len(missing):
        return ("trees", -1)
    for j, (number, tree) in enumerate(zip(missing, trees)):
        why = tree_reason(history, {*trusted, *reports}, moment, places, number, tree)
        if why is not None:
            return (why[0], (j, why[1]))
    if len(courses) != len(reports):
        return ("courses", -1)
    for i, course in enumerate(courses):
        why = stray_reason(history, {*trusted, *reports[:i], *reports[i + 1:]}, moment, places, allowed, course, i)
        if why is not None:
            return why
    return None


def stray_reason(history, trusted, moment, places, allowed, course, index):
    """Why a course is no course with a number that is not allowed, or None."""
    why = course_reason(history, trusted, course)
    if why is not None:
        return (why[0], (index, why[1]))
    return ("number", index) if len(set(course[moment]) & set(places)) in allowed else None


def is_node_shape(thing):
    if type(thing) is not tuple or len(thing) != 2 or type(thing[1]) is not tuple:
        return False
    return all(type(child) is tuple and len(child) == 2 and is_numbers(child[:1]) and is_node_shape(child[1])
               for child in thing[1])


def refuting_nodes(node, way=()):
    """The nodes of a tree in preorder, each with the candidates above it."""
    found = [(node, way)]
    for candidate, child in node[1]:
        found += refuting_nodes(child, way + (candidate,))
    return found


def refute_reason(history, trusted, candidates, moment, places, allowed, size, thing):
    """The word and the position with which a value is refused as a refuting tree, or None."""
    if not is_node_shape(thing):
        return ("shape", -1)
    for at, ((course, children), way) in enumerate(refuting_nodes(thing)):
        why = stray_reason(history, {*trusted, *way}, moment, places, allowed, course, at)
        if why is not None:
            return why
        wrong = [one for one in candidates
                 if not agrees(history, history[1][one], mask_of(history, course[one]))]
        if [child[0] for child in children] != (wrong if len(way) != size else []):
            return ("children", at)
    return None


def moved_count(history, course, persons):
    """How many marks the persons move, counted step by step."""
    total = 0
    for event, before, after in zip(history[1], course, course[1:]):
        if event[0] == "mix" and event[1] in persons:
            total += len(set(after) - set(before))
    return total


def priced_course_reason(history, trusted, thing):
    """Why a value is no pair of a course that agrees and of prices, or None."""
    if type(thing) is not tuple or len(thing) != 2 or not is_states(thing[0]) or not is_price_tuple(thing[1]):
        return ("shape", -1)
    course, prices = thing
    why = course_reason(history, trusted, course)
    if why is not None:
        return why
    if len(prices) != len(history[1]):
        return ("prices", -1)
    for at, event in enumerate(history[1]):
        if not are_prices((history[0], (event,)), prices[at:at + 1]):
            return ("prices", at)
    return None


def moved_reason(history, trusted, persons, thing):
    """The word and the position with which a value is refused as a moved paper, or None."""
    why = priced_course_reason(history, trusted, thing)
    if why is not None:
        return why
    course, prices = thing
    for at, event in enumerate(history[1]):
        if event[0] == "mix":
            gaps = {abs(one - two) for one in prices[at] for two in prices[at]}
            if not gaps <= ({0, 1} if event[1] in persons else {0}):
                return ("step", at)
    bound = slow_bound(history, trusted, 0, (), prices, False)
    return None if bound == moved_count(history, course, persons) else ("bound", -1)
