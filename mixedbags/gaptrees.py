"""Building gap trees: they show that a question never has a number."""

from mixedbags.extremes import extreme_within
from mixedbags.flows import prices_against
from mixedbags.questions import number_of
from mixedbags.stretches import marks_with


def gap_tree(history, trusted, moment, places, number):
    """Return any gap tree for a number that the question has in no course."""
    return _tree_below(history, trusted, moment, places, number, ())


def _tree_below(history, trusted, moment, places, number, fixes):
    """Return a gap tree for the courses in which the places have the marks of fixes."""
    marks = marks_with(history, trusted, moment, fixes)
    for stretch in marks:
        if len(marks[stretch]) == 0:
            return ("clash", stretch)
    low = extreme_within(history, trusted, marks, moment, places, False)
    if low is None:
        return ("below", _beyond(prices_against(history, trusted, marks), number))
    if number_of(low[0], moment, places) > number:
        return ("below", low[1])
    high = extreme_within(history, trusted, marks, moment, places, True)
    if number_of(high[0], moment, places) < number:
        return ("above", high[1])
    place = _place_to_fix(low[0][moment], high[0][moment], places)
    plain = _tree_below(history, trusted, moment, places, number, (*fixes, (place, 0)))
    marked = _tree_below(history, trusted, moment, places, number, (*fixes, (place, 1)))
    return ("fix", place, plain, marked)


def _beyond(prices, number):
    """Return prices with a lower bound above the number. That of the no-course prices is only above 0."""
    return tuple([_multiplied(entry, number + 1) for entry in prices])


def _multiplied(entry, factor):
    if entry is None:
        return None
    return tuple([factor * price for price in entry])


def _place_to_fix(low_state, high_state, places):
    # The number lies between those of both states, so there is such a place, and it is not fixed yet.
    return [place for place in places if place in high_state and place not in low_state][0]
