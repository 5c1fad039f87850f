"""Which reports are sufficient for a question to be known within limits."""

from mixedbags.hindsight import forcing_sets
from mixedbags.questions import numbers_between


def sufficient_sets(history, trusted, candidates, moment, places, low, high):
    """Return the ascending tuple of all minimal sets of candidates that are sufficient."""
    # The question is known to be within the limits exactly if it is forced into the numbers between them.
    allowed = numbers_between(places, low, high)
    return forcing_sets(history, trusted, candidates, moment, places, allowed)
