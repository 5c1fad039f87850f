"""The possible states of the last moment: ways between them, and the best of them."""

from mixedbags.arguments import check_last_states, check_places, check_reports
from mixedbags.distances import is_step_toward
from mixedbags.states import possible_states


def steps_between(history, trusted, one, other):
    """Return any step row from one state to the other, or None if one of them is not possible."""
    check_last_states(history, trusted, one, other)
    states = possible_states(history, trusted, len(history[1]))
    if one not in states or other not in states:
        return None
    row = [one]
    while row[-1] != other:
        # Any step that comes nearer will do, since a step row leads on from each possible state.
        row.append([state for state in states if is_step_toward(row[-1], state, other)][0])
    return tuple(row)


def best_state(history, trusted, values):
    """Return the least of the possible states with the greatest sum, or None if no state is possible."""
    check_places(history, [place for place, _ in values])
    check_reports(history, trusted)
    worths = dict(values)
    best = None
    greatest = 0
    for state in possible_states(history, trusted, len(history[1])):
        worth = sum([worths.get(place, 0) for place in state])
        if best is None or worth > greatest:
            best = state
            greatest = worth
    return best
