"""The checker of part papers."""

from mixedbags.arguments import check_priced
from mixedbags.charging import factor_of, rates_of, scaled_rates
from mixedbags.costchecker import checked_cost


def lets_part(history, trusted, priced, person, thing, *, weights=()):
    """Return the part of a part paper. Raise InvalidPaper if any value is none."""
    check_priced(history, trusted, priced)
    rates = rates_of(history, priced, weights)
    scaled = checked_cost(history, trusted, scaled_rates(history, rates, person), thing)
    return scaled % factor_of(history, rates, person)
