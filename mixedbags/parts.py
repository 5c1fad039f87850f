"""The part of the cost that falls on one person."""

from mixedbags.arguments import check_reports
from mixedbags.charging import factor_of, rated_cost, rates_of, scaled_rates
from mixedbags.partpapers import part_paper


def part_of(history, trusted, priced, person, *, weights=()):
    """Return the smallest part of the person in a cheapest course, or None if there is no course."""
    paper = part_paper(history, trusted, priced, person, weights=weights)
    if paper is None:
        return None
    rates = rates_of(history, priced, weights)
    return rated_cost(history, scaled_rates(history, rates, person), paper[0]) % factor_of(history, rates, person)


def part_factor(history, priced, person, *, weights=()):
    """Return the factor of the person, which is greater than the part of the person in any course."""
    check_reports(history, priced)
    return factor_of(history, rates_of(history, priced, weights), person)
