"""Which reports are certainly wrong, if wrong reports are as few and as light as they can be."""

from mixedbags.costs import least_cost
from mixedbags.reports import joined, without


def wrong_reports(history, trusted, priced, *, weights=()):
    """Return the priced reports that are wrong in every cheapest course, or None if there is no course."""
    least = least_cost(history, trusted, priced, weights=weights)
    if least is None:
        return None
    wrong = []
    for at, position in enumerate(priced):
        stricter = least_cost(history, joined(trusted, (position,)), without(priced, at), weights=weights)
        if stricter is None or stricter > least:
            wrong.append(position)
    return tuple(wrong)
