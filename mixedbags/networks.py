"""A history as a network: its stretches and pours are edges, along which marks flow.

Node 0 is the outside, from which bags come and to which they go. A mix is one node. A
pour is two nodes, one before it and one after it, and an edge between them, along which
flow as many marks as are poured. So the courses are the circulations of this network.
"""

from mixedbags.stretches import stretches_of


def loose_edges(history, trusted, marks):
    """Return edges on which every flow is possible, but costs what it differs from the allowed ones."""
    rates = {}
    for stretch in marks:
        rates[stretch] = (0, [_miss(mark, marks[stretch]) for mark in (0, 1)])
    for at in _pours(history):
        event = history[1][at]
        rates[at] = (0, [0] * (len(event[2]) + 1))
        if at in trusted:
            rates[at] = (0, [abs(number - event[3]) for number in range(len(event[2]) + 1)])
    return _edges(history, rates)


def _miss(mark, marks):
    if mark in marks:
        return 0
    return 1


def tight_edges(history, trusted, marks, weights):
    """Return edges on which only allowed flows are possible. A mark costs the weight of its stretch."""
    rates = {}
    for stretch in marks:
        weight = weights.get(stretch, 0)
        rates[stretch] = (marks[stretch][0], [mark * weight for mark in marks[stretch]])
    for at in _pours(history):
        event = history[1][at]
        rates[at] = (0, [0] * (len(event[2]) + 1))
        if at in trusted:
            rates[at] = (event[3], [0])
    return _edges(history, rates)


def _pours(history):
    return [at for at, event in enumerate(history[1]) if event[0] == "pour"]


def _edges(history, rates):
    nodes = _nodes(history)
    edges = []
    for stretch in stretches_of(history):
        low, costs = rates[stretch]
        edges.append((nodes[stretch[1]][1], nodes[stretch[2]][0], low, costs))
    for at in _pours(history):
        low, costs = rates[at]
        edges.append((nodes[at][0], nodes[at][1], low, costs))
    return edges


def _nodes(history):
    """Return for each event the pair of the nodes at which bags come to it and leave it."""
    nodes = []
    used = 1
    for event in history[1]:
        if event[0] == "mix":
            nodes.append((used, used))
            used += 1
        elif event[0] == "pour":
            nodes.append((used, used + 1))
            used += 2
        else:
            nodes.append((0, 0))
    # Both the index -1 of the start and the index after the last event find this pair.
    nodes.append((0, 0))
    return nodes


def size_of(history):
    """Return the number of nodes."""
    return 1 + max([pair[1] for pair in _nodes(history)])


def course_from(history, flows):
    """Return the course in which the marks flow so."""
    states = [[] for _ in range(len(history[1]) + 1)]
    for at, stretch in enumerate(stretches_of(history)):
        place, begin, end = stretch
        if flows[at] == 1:
            for moment in range(begin + 1, end + 1):
                states[moment].append(place)
    return tuple([tuple(state) for state in states])


def prices_from(history, distances, sign):
    """Return the level prices that the distances of the nodes are, times 1 or -1."""
    worths = [sign * (distances[0] - distance) for distance in distances]
    nodes = _nodes(history)
    prices = []
    for at, event in enumerate(history[1]):
        before, after = nodes[at]
        if event[0] == "mix":
            prices.append((worths[before],) * len(event[2]))
        elif event[0] == "pour":
            prices.append((worths[before], worths[after]))
        else:
            prices.append(None)
    return tuple(prices)
