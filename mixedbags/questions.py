"""Questions: a moment, and how many of some places hold marked bags then."""

from mixedbags.counting import number_in


def counts_stretch(stretch, moment, places):
    """Return whether the question counts the stretch."""
    return stretch[0] in places and stretch[1] < moment <= stretch[2]


def number_of(course, moment, places):
    """Return the number of the question in a course."""
    return number_in(course[moment], places)


def numbers_between(places, low, high):
    """Return the ascending tuple of the numbers from low to high that places can have."""
    return tuple([number for number in range(len(places) + 1) if low <= number <= high])


def numbers_outside(places, allowed):
    """Return the ascending tuple of the numbers that places can have, but that are not allowed."""
    return tuple([number for number in range(len(places) + 1) if number not in allowed])
