"""Bounds by prices, given the marks that are left to each stretch."""

from mixedbags.counting import pour_numbers
from mixedbags.questions import counts_stretch


def bound_within(history, trusted, marks, moment, places, prices, is_upper):
    """Return the upper or the lower bound of a question, or None if some stretch has no mark left."""
    counted = {stretch: (0, 1) for stretch in marks if counts_stretch(stretch, moment, places)}
    return shares_within(history, trusted, marks, prices, counted, is_upper)


def shares_within(history, trusted, marks, prices, charges, is_upper):
    """Return the sum of the greatest or the least shares, or None if some stretch has no mark left.

    charges has, for some stretches and for some indices of pours, what is added to the
    share for each number of marks.
    """
    total = 0
    for stretch in marks:
        if len(marks[stretch]) == 0:
            return None
        total += _extreme(marks[stretch], slope_of(history, prices, stretch), charges.get(stretch), is_upper)
    for at, event in enumerate(history[1]):
        if event[0] == "pour":
            rise = prices[at][1] - prices[at][0]
            total += _extreme(pour_numbers(event, at in trusted), rise, charges.get(at), is_upper)
    return total


def _extreme(numbers, slope, charge, is_upper):
    shares = [number * slope for number in numbers]
    if charge is not None:
        shares = [share + charge[number] for number, share in zip(numbers, shares)]
    if is_upper:
        return max(shares)
    return min(shares)


def slope_of(history, prices, stretch):
    """Return the price of the stretch at its end minus its price at its beginning."""
    place, begin, end = stretch
    return _price_at(history, prices, place, end, 0) - _price_at(history, prices, place, begin, 1)


def _price_at(history, prices, place, at, side):
    if at == -1 or at == len(history[1]):
        return 0
    event = history[1][at]
    if event[0] == "mix":
        return prices[at][event[2].index(place)]
    if event[0] == "pour":
        return prices[at][side]
    return 0
