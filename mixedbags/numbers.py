"""The exact numbers of a question."""

from mixedbags.arguments import check_question
from mixedbags.counting import number_in
from mixedbags.states import possible_states


def numbers_of(history, trusted, moment, places):
    """Return the ascending tuple of the numbers that the question has in some course."""
    check_question(history, trusted, moment, places)
    states = possible_states(history, trusted, moment)
    found = {number_in(state, places): True for state in states}
    return tuple(sorted(found))
