"""What persons know together, and what is known by trusted reports."""

from mixedbags.ranges import range_of
from mixedbags.reports import reports_by


def group_range(history, persons, moment, places):
    """Return the range if exactly the reports of the persons are trusted, or None."""
    return range_of(history, reports_by(history, persons), moment, places)


def is_known(history, trusted, moment, places, low, high):
    """Return whether the number is from low to high in every course that agrees with the trusted reports."""
    found = range_of(history, trusted, moment, places)
    return found is None or (low <= found[0] and found[1] <= high)
