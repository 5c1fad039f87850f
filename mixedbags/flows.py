"""Courses as flows of marks: whether there is one, and one of the least cost.

In these functions marks is a dict with the marks of each stretch that are left to it, in
the order of the stretches.
"""

from mixedbags.circulations import cheapest_circulation, cost_of_flows
from mixedbags.networks import Network


def course_within(history, trusted, marks):
    """Return any course that agrees with the trusted reports and has these marks, or None."""
    network = Network(history, ())
    flows, misses, _ = _loose_flows(network, trusted, marks)
    if misses > 0:
        return None
    return network.course_from(flows)


def lightest_course(history, trusted, marks, charges, *, sign=1, movers=()):
    """Return a course of the least cost, and the prices, times 1 or -1, that prove it.

    The cost is that of the charges, and 1 for each mark that the movers move. Return None
    if there is no course.
    """
    network = Network(history, movers)
    flows, misses, _ = _loose_flows(network, trusted, marks)
    if misses > 0:
        return None
    edges = network.tight_edges(trusted, marks, charges)
    flows, distances = cheapest_circulation(network.size, edges, flows)
    return network.course_from(flows), network.prices_from(distances, sign)


def prices_against(history, trusted, marks):
    """Return no-course prices for these marks, at least one for each stretch, or None if there is a course."""
    network = Network(history, ())
    _, misses, distances = _loose_flows(network, trusted, marks)
    if misses == 0:
        return None
    # Whatever is allowed costs nothing as a miss, so the least misses are below the bound of these prices.
    return network.prices_from(distances, 1)


def _loose_flows(network, trusted, marks):
    """Return flows that differ least from the allowed ones, by how much, and distances that prove it."""
    edges = network.loose_edges(trusted, marks)
    flows, distances = cheapest_circulation(network.size, edges, [0] * len(edges))
    return flows, cost_of_flows(edges, flows), distances
