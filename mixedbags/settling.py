"""Whether a statement about the last moment is settled, and how many further looks settle it."""

from mixedbags.arguments import check_statement
from mixedbags.looks import Looks


def is_settled(history, trusted, places, low, high):
    """Return whether the statement is true in every possible state, or false in every one."""
    check_statement(history, trusted, places)
    looks = Looks(history, trusted, places, low, high)
    return len(looks.true_states) == 0 or len(looks.false_states) == 0


def fewest_looks(history, trusted, places, low, high):
    """Return the fewest further looks that settle the statement, whatever their answers."""
    check_statement(history, trusted, places)
    return Looks(history, trusted, places, low, high).fewest_after(())
