"""What a state says of its places."""


def mark_in(state, place):
    """Return the mark of the bag at the place."""
    if place in state:
        return 1
    return 0


def number_in(state, places):
    """Return how many of the places hold marked bags."""
    return len([place for place in places if place in state])


def rest_of(state, places):
    """Return the state without these places."""
    return tuple([place for place in state if place not in places])


def agrees_with_report(event, state):
    """Return whether the state before a look or a pour is as the event reports it."""
    if event[0] == "look":
        return mark_in(state, event[2]) == event[3]
    return number_in(state, event[2]) == event[3]
