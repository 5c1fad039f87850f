"""The range of a question."""

from mixedbags.arguments import check_question
from mixedbags.extremes import extreme_of
from mixedbags.questions import number_of


def range_of(history, trusted, moment, places):
    """Return the pair of the least and the greatest number, or None if there is no course."""
    check_question(history, trusted, moment, places)
    low = extreme_of(history, trusted, moment, places, False)
    if low is None:
        return None
    high = extreme_of(history, trusted, moment, places, True)
    return (number_of(low[0], moment, places), number_of(high[0], moment, places))
