"""Courses as flows of marks: whether there is one, and one of the least weight.

In these functions marks is a dict with the marks of each stretch that are left to it, in
the order of the stretches.
"""

from mixedbags.circulations import cheapest_circulation, cost_of_flows
from mixedbags.networks import loose_edges, size_of, tight_edges


def loose_flows(history, trusted, marks):
    """Return flows that differ least from the allowed ones, by how much, and distances that prove it."""
    edges = loose_edges(history, trusted, marks)
    flows, distances = cheapest_circulation(size_of(history), edges, [0] * len(edges))
    return flows, cost_of_flows(edges, flows), distances


def lightest_flows(history, trusted, marks, weights):
    """Return the flows of a course of the least weight, and distances that prove it.

    The weight of a course is the sum of the weights of its marked stretches. Return None
    if there is no course.
    """
    flows, misses, _ = loose_flows(history, trusted, marks)
    if misses > 0:
        return None
    edges = tight_edges(history, trusted, marks, weights)
    return cheapest_circulation(size_of(history), edges, flows)
