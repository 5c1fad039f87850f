"""Questions: a moment, and how many of some places hold marked bags then."""

from mixedbags.counting import number_in


def counts_stretch(stretch, moment, places):
    """Return whether the question counts the stretch."""
    return stretch[0] in places and stretch[1] < moment <= stretch[2]


def number_of(course, moment, places):
    """Return the number of the question in a course."""
    return number_in(course[moment], places)
