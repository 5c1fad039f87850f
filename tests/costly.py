"""What wrong reports cost, written once more in another way, for the tests."""

from tests.oracles import slow_marks, slow_slope, slow_stretches
from tests.paper_oracles import priced_course_reason
from tests.support import agrees_with_start, all_masks, is_step, mask_of, ones


def report_mask(history, at):
    kind, _, places, _ = history[1][at]
    return mask_of(history, places if kind == "pour" else (places,))


def miss_of(history, at, mask):
    """By how many marks a report is wrong in a state."""
    return abs(ones(mask & report_mask(history, at)) - history[1][at][3])


def all_misses(history, trusted, priced):
    """What the courses that agree show: all tuples of the numbers of marks by which the priced reports are wrong."""
    layer = {(mask, ()) for mask in all_masks(history) if agrees_with_start(history, mask)}
    for at in range(len(history[1])):
        later = {}
        for mask, row in layer:
            if mask not in later:
                later[mask] = [new for new in all_masks(history) if is_step(history, trusted, at, mask, new)]
        shown = {(mask, row + ((miss_of(history, at, mask),) if at in priced else ())) for mask, row in layer}
        layer = {(new, row) for mask, row in shown for new in later[mask]}
    return {row for _, row in layer}


def weight_of(history, at, weights):
    return dict(weights).get(history[1][at][1], 1)


def cost_of_misses(history, priced, weights, row):
    return sum(weight_of(history, at, weights) * miss for at, miss in zip(priced, row))


def cheapest_misses(history, trusted, priced, weights):
    """The least cost, and the tuples of the cheapest courses, or None if there is no course."""
    costs = {row: cost_of_misses(history, priced, weights, row) for row in all_misses(history, trusted, priced)}
    if not costs:
        return None
    least = min(costs.values())
    return least, [row for row in costs if costs[row] == least]


def part_of_misses(history, priced, weights, person, row):
    return sum(weight_of(history, at, weights) * miss for at, miss in zip(priced, row) if history[1][at][1] == person)


def slow_factor(history, priced, weights, person):
    return 1 + sum(weight_of(history, at, weights) * ones(report_mask(history, at))
                   for at in priced if history[1][at][1] == person)


def slow_rates(history, priced, weights, person=None):
    """What each priced report costs for a mark, scaled for the part of a person."""
    rates = {at: weight_of(history, at, weights) for at in priced}
    if person is not None:
        factor = slow_factor(history, priced, weights, person)
        rates = {at: rate * (factor + (history[1][at][1] == person)) for at, rate in rates.items()}
    return rates


def slow_rated_cost(history, rates, course):
    return sum(rate * miss_of(history, at, mask_of(history, course[at])) for at, rate in rates.items())


def slow_rated_bound(history, trusted, rates, prices):
    """The bound of the cost by level prices, straight from the definition, or None."""
    total = 0
    for stretch in slow_stretches(history):
        place, begin, end = stretch
        looks = [at for at in rates if history[1][at][0] == "look" and history[1][at][2] == place and begin < at < end]
        shares = [mark * slow_slope(history, prices, stretch)
                  + sum(rates[at] for at in looks if history[1][at][3] != mark)
                  for mark in slow_marks(history, trusted, stretch)]
        if not shares:
            return None
        total += min(shares)
    for at, event in enumerate(history[1]):
        if event[0] == "pour":
            numbers = [event[3]] if at in trusted else range(len(event[2]) + 1)
            total += min(number * (prices[at][1] - prices[at][0]) + rates.get(at, 0) * abs(event[3] - number)
                         for number in numbers)
    return total


def rated_reason(history, trusted, rates, thing):
    """The word and the position with which a value is refused as a cost paper at these rates, or None."""
    why = priced_course_reason(history, trusted, thing)
    if why is not None:
        return why
    course, prices = thing
    for at, event in enumerate(history[1]):
        if event[0] == "mix" and len(set(prices[at])) > 1:
            return ("level", at)
    bound = slow_rated_bound(history, trusted, rates, prices)
    return None if bound == slow_rated_cost(history, rates, course) else ("bound", -1)
