"""What wrong reports cost."""

from mixedbags.arguments import check_priced, check_reports
from mixedbags.charging import rated_cost, rates_of
from mixedbags.ratedpapers import rated_paper


def cost_of(history, priced, course, *, weights=()):
    """Return the cost of the course."""
    check_reports(history, priced)
    return rated_cost(history, rates_of(history, priced, weights), course)


def least_cost(history, trusted, priced, *, weights=()):
    """Return the least cost of a course that agrees with the trusted reports, or None if there is none."""
    course = cheapest_course(history, trusted, priced, weights=weights)
    if course is None:
        return None
    return cost_of(history, priced, course, weights=weights)


def cheapest_course(history, trusted, priced, *, weights=()):
    """Return any course of the least cost, or None if no course agrees with the trusted reports."""
    check_priced(history, trusted, priced)
    found = rated_paper(history, trusted, rates_of(history, priced, weights))
    if found is None:
        return None
    return found[0]
