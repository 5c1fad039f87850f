"""Step papers."""

from mixedbags.courses import course_through
from mixedbags.laststeps import steps_between


def step_paper(history, trusted, one, other):
    """Return any step paper from one state to the other, or None if one of them is not possible."""
    row = steps_between(history, trusted, one, other)
    if row is None:
        return None
    return tuple([course_through(history, trusted, len(history[1]), state) for state in row])
