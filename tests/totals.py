"""Least sums over all courses, by a search of the tests' own that tries all steps."""

from tests.support import agrees_with_start, all_masks, is_step, mask_of, ones


def least_total(history, trusted, toll):
    """The least sum of the tolls of all steps of a course that agrees, or None. toll takes at, before, after."""
    layer = {mask: 0 for mask in all_masks(history) if agrees_with_start(history, mask)}
    for at in range(len(history[1])):
        later = {}
        for old, total in layer.items():
            for new in all_masks(history):
                if is_step(history, trusted, at, old, new):
                    later[new] = min(later.get(new, total + toll(at, old, new)), total + toll(at, old, new))
        layer = later
    return min(layer.values(), default=None)


def least_moves(history, trusted, persons):
    """The least number of marks that the persons move, by trying all steps."""
    def toll(at, old, new):
        kind, person, *_ = history[1][at]
        return ones(new & ~old) if kind == "mix" and person in persons else 0
    return least_total(history, trusted, toll)


def price_of(history, event, state_mask, weights):
    """What a priced report costs in a state."""
    places = event[2] if event[0] == "pour" else (event[2],)
    wrong = abs(ones(state_mask & mask_of(history, places)) - event[3])
    return wrong * dict(weights).get(event[1], 1)


def least_price(history, trusted, priced, weights):
    """The least cost, by trying all steps."""
    def toll(at, old, new):
        return price_of(history, history[1][at], old, weights) if at in priced else 0
    return least_total(history, trusted, toll)
