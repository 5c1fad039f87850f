"""How far apart two states are, and the steps from one to the other."""

from mixedbags.counting import rest_of


def is_step_toward(before, after, goal):
    """Return whether a step leads from one state to the next, and comes nearer to a third one."""
    if len(rest_of(before, after)) > 1 or len(rest_of(after, before)) > 1:
        return False
    return distance_of(after, goal) < distance_of(before, goal)


def distance_of(one, other):
    """Return the number of places that are in exactly one of two states."""
    return len(rest_of(one, other)) + len(rest_of(other, one))
