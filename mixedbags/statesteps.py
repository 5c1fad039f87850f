"""How an event leads from the states before it to those after it, and back."""

from mixedbags.choosing import choices
from mixedbags.counting import agrees_with_report, rest_of


def first_states(history):
    """Return all states that agree with start."""
    states = [()]
    for place, mark in history[0]:
        plain = [state for state in states if mark != 1]
        marked = [(*state, place) for state in states if mark != 0]
        states = plain + marked
    return states


def any_states(places):
    """Return all states of these places."""
    states = [()]
    for place in places:
        states = states + [(*state, place) for state in states]
    return states


def states_after(history, trusted, at, states):
    """Return the states to which the event leads from one of the states."""
    event = history[1][at]
    left = _agreeing(event, at in trusted, states)
    if event[0] == "new":
        return _renewed(event, left)
    return _exchanged(event, left)


def states_before(history, trusted, at, states):
    """Return the states from which the event leads to one of the states."""
    event = history[1][at]
    if event[0] == "new":
        return _older(event, states)
    # What else happens can happen backwards as well, and leaves the reported number as it is.
    return states_after(history, trusted, at, states)


def _agreeing(event, is_trusted, states):
    if not is_trusted:
        return states
    return [state for state in states if agrees_with_report(event, state)]


def _exchanged(event, states):
    if event[0] == "look":
        return states
    # States that differ only in the order of the exchanged bags lead to the same states.
    groups = {}
    for state in states:
        rest = rest_of(state, event[2])
        groups[(rest, len(state) - len(rest))] = True
    found = []
    for rest, many in groups:
        for chosen in choices(event[2], many):
            found.append(tuple(sorted(rest + chosen)))
    return found


def _renewed(event, states):
    rests = {rest_of(state, (event[1],)): True for state in states}
    plain = [rest for rest in rests if event[2] != 1]
    marked = [tuple(sorted((*rest, event[1]))) for rest in rests if event[2] != 0]
    return plain + marked


def _older(event, states):
    fitting = [state for state in states if event[2] is None or (event[1] in state) == (event[2] == 1)]
    return _renewed(("new", event[1], None), fitting)
