"""Circulations: whole flows along edges, in which as much leaves each node as comes to it.

An edge is (tail, head, low, costs). Its flow is at least low, and costs has the cost of
each flow from low on. Each further unit costs at least as much as the unit before, so a
circulation is a cheapest one as soon as no single unit on a cycle makes it cheaper.
"""


def cheapest_circulation(size, edges, flows):
    """Return the flows of a cheapest circulation, beginning with a given one, and distances.

    The nodes are the numbers below size. No open arc is shorter than the difference of
    the distances of its nodes. That makes the distances the proof that it is a cheapest one.
    """
    flows = list(flows)
    distances, cycle = _measured(size, _open_arcs(edges, flows))
    while cycle:
        for at, change in cycle:
            flows[at] += change
        distances, cycle = _measured(size, _open_arcs(edges, flows))
    return flows, distances


def cost_of_flows(edges, flows):
    """Return the sum of the costs of all edges."""
    return sum([edge[3][flow - edge[2]] for edge, flow in zip(edges, flows)])


def _open_arcs(edges, flows):
    """Return (tail, head, cost, index of the edge, change) for each unit that can be added or removed."""
    arcs = []
    for at, edge in enumerate(edges):
        tail, head, low, costs = edge
        level = flows[at] - low
        if level + 1 < len(costs):
            arcs.append((tail, head, costs[level + 1] - costs[level], at, 1))
        if level > 0:
            arcs.append((head, tail, costs[level - 1] - costs[level], at, -1))
    return arcs


def _measured(size, arcs):
    """Return the distances of the nodes, and the steps of a cycle below 0 if there is one."""
    distances = [0] * size
    arrivals = [None] * size
    is_changed = True
    while is_changed:
        is_changed = False
        for arc in arcs:
            reached = distances[arc[0]] + arc[2]
            if reached < distances[arc[1]]:
                distances[arc[1]] = reached
                arrivals[arc[1]] = arc
                is_changed = True
        # Arrivals that run in a circle get shorter with each round, so the loop would not end.
        cycle = _circle(arrivals)
        if cycle:
            return distances, cycle
    return distances, []


def _circle(arrivals):
    walks = [-1] * len(arrivals)
    for walk in range(len(arrivals)):
        node = walk
        while walks[node] == -1 and arrivals[node] is not None:
            walks[node] = walk
            node = arrivals[node][0]
        if walks[node] == walk:
            return _steps_around(arrivals, node)
    return []


def _steps_around(arrivals, node):
    steps = [(arrivals[node][3], arrivals[node][4])]
    at = arrivals[node][0]
    while at != node:
        steps.append((arrivals[at][3], arrivals[at][4]))
        at = arrivals[at][0]
    return steps
