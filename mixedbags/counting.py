"""What a state says of its places, and what reports say of a state."""

from mixedbags.reports import places_in


def mark_in(state, place):
    """Return the mark of the bag at the place."""
    if place in state:
        return 1
    return 0


def number_in(state, places):
    """Return how many of the places hold marked bags."""
    return len([place for place in places if place in state])


def rest_of(state, places):
    """Return the state without these places."""
    return tuple([place for place in state if place not in places])


def agrees_with_report(event, state):
    """Return whether the state before a look or a pour is as the event reports it."""
    return number_in(state, places_in(event)) == event[3]


def disagreeing(history, course, positions):
    """Return those of the positions whose reports a course does not agree with."""
    return tuple([at for at in positions if not agrees_with_report(history[1][at], course[at])])


def pour_numbers(event, is_trusted):
    """Return the tuple of the numbers of marked bags that a pour may have."""
    if is_trusted:
        return (event[3],)
    return tuple(range(len(event[2]) + 1))
