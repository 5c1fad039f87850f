"""Moved papers, and the bound that their prices give."""

from mixedbags.arguments import check_reports
from mixedbags.bounds import shares_within
from mixedbags.flows import lightest_course
from mixedbags.stretches import marks_by_stretch


def moved_bound(history, trusted, prices):
    """Return the moved bound of prices, level or not, or None if a stretch has no allowed mark."""
    check_reports(history, trusted)
    return shares_within(history, trusted, marks_by_stretch(history, trusted), prices, {}, False)


def move_paper(history, trusted, persons):
    """Return any moved paper, or None if no course agrees with the trusted reports."""
    check_reports(history, trusted)
    return lightest_course(history, trusted, marks_by_stretch(history, trusted), {}, movers=persons)
