"""The checker of step papers."""

from mixedbags.arguments import check_last_states
from mixedbags.coursechecker import is_course_shape
from mixedbags.distances import is_step_toward
from mixedbags.errors import InvalidPaper
from mixedbags.rangechecker import check_course


def lets_steps(history, trusted, one, other, thing):
    """Return the number of steps of a step paper. Raise InvalidPaper if any value is none."""
    check_last_states(history, trusted, one, other)
    if not _is_steps_shape(thing):
        raise InvalidPaper("shape", -1)
    for at, course in enumerate(thing):
        check_course(history, trusted, course, at)
    row = [course[-1] for course in thing]
    if row[0] != one:
        raise InvalidPaper("first", -1)
    for at in range(1, len(row)):
        if not is_step_toward(row[at - 1], row[at], other):
            raise InvalidPaper("step", at)
    if row[-1] != other:
        raise InvalidPaper("last", -1)
    return len(row) - 1


def _is_steps_shape(thing):
    return isinstance(thing, tuple) and len(thing) > 0 and all([is_course_shape(course) for course in thing])
