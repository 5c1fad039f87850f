"""Number papers."""

from mixedbags.arguments import check_question
from mixedbags.counting import number_in
from mixedbags.courses import course_through
from mixedbags.gaptrees import gap_tree
from mixedbags.states import possible_states


def number_paper(history, trusted, moment, places, number):
    """Return any number paper: a course with the number, or a gap tree if there is none."""
    check_question(history, trusted, moment, places)
    for state in possible_states(history, trusted, moment):
        if number_in(state, places) == number:
            return ("occurs", course_through(history, trusted, moment, state))
    return ("gap", gap_tree(history, trusted, moment, places, number))
