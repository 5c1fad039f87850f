"""Cost papers, and the bound that their prices give."""

from mixedbags.arguments import check_priced
from mixedbags.charging import rates_of
from mixedbags.ratedpapers import rated_bound, rated_paper


def cost_bound(history, trusted, priced, prices, *, weights=()):
    """Return the cost bound of level prices, or None if a stretch has no allowed mark."""
    check_priced(history, trusted, priced)
    return rated_bound(history, trusted, rates_of(history, priced, weights), prices)


def cost_paper(history, trusted, priced, *, weights=()):
    """Return any cost paper, or None if no course agrees with the trusted reports."""
    check_priced(history, trusted, priced)
    return rated_paper(history, trusted, rates_of(history, priced, weights))
