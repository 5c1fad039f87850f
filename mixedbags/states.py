"""The states of a moment: past, future and possible ones."""

from mixedbags.arguments import check_moment, check_reports
from mixedbags.reports import places_of
from mixedbags.statesteps import any_states, first_states, states_after, states_before


def past_states(history, trusted, moment):
    """Return the ascending tuple of all past states of the moment."""
    check_moment(history, moment)
    check_reports(history, trusted)
    states = first_states(history)
    for at in range(moment):
        states = states_after(history, trusted, at, states)
    return tuple(sorted(states))


def future_states(history, trusted, moment):
    """Return the ascending tuple of all future states of the moment."""
    check_moment(history, moment)
    check_reports(history, trusted)
    states = any_states(places_of(history))
    for at in reversed(range(moment, len(history[1]))):
        states = states_before(history, trusted, at, states)
    return tuple(sorted(states))


def possible_states(history, trusted, moment):
    """Return the ascending tuple of all possible states of the moment."""
    future = {state: True for state in future_states(history, trusted, moment)}
    return tuple([state for state in past_states(history, trusted, moment) if state in future])
