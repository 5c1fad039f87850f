"""What the reports that are priced cost, if they are wrong.

The rate of a priced report is its cost for each mark by which it is wrong.
"""

from mixedbags.counting import number_in, pour_numbers
from mixedbags.reports import places_in
from mixedbags.stretches import stretch_at


def rates_of(history, priced, weights):
    """Return a dict with the rate of each priced report."""
    known = dict(weights)
    return {at: known.get(history[1][at][1], 1) for at in priced}


def factor_of(history, rates, person):
    """Return a number that is greater than what the reports of the person cost in any course."""
    return 1 + sum([rates[at] * len(places_in(history[1][at])) for at in rates if history[1][at][1] == person])


def scaled_rates(history, rates, person):
    """Return rates at which a course is a cheapest one only if it also has the smallest part of the person."""
    factor = factor_of(history, rates, person)
    scaled = {}
    for at in rates:
        scaled[at] = rates[at] * factor
        if history[1][at][1] == person:
            scaled[at] += rates[at]
    return scaled


def rated_cost(history, rates, course):
    """Return what a course costs at these rates."""
    total = 0
    for at in rates:
        event = history[1][at]
        total += _charge(event, rates[at], number_in(course[at], places_in(event)))
    return total


def charges_of(history, rates):
    """Return the costs by the number of marks, for each stretch with a priced look and each priced pour."""
    charges = {}
    for at in rates:
        event = history[1][at]
        if event[0] == "pour":
            charges[at] = [_charge(event, rates[at], number) for number in pour_numbers(event, False)]
        else:
            stretch = stretch_at(history, event[2], at)
            others = charges.get(stretch, (0, 0))
            charges[stretch] = [others[mark] + _charge(event, rates[at], mark) for mark in (0, 1)]
    return charges


def _charge(event, rate, number):
    # A look is a report of its one place, whose number is the mark.
    return rate * abs(event[3] - number)
