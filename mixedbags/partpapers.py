"""Part papers."""

from mixedbags.arguments import check_priced
from mixedbags.charging import rates_of, scaled_rates
from mixedbags.ratedpapers import rated_paper


def part_paper(history, trusted, priced, person, *, weights=()):
    """Return any part paper, or None if no course agrees with the trusted reports."""
    check_priced(history, trusted, priced)
    rates = rates_of(history, priced, weights)
    return rated_paper(history, trusted, scaled_rates(history, rates, person))
