"""Choosing some of several things."""


def choices(things, many):
    """Return the tuples of so many of the things, in their order."""
    rows = [()]
    for at, thing in enumerate(things):
        later = len(things) - at - 1
        longer = [(*row, thing) for row in rows if len(row) < many]
        rows = [row for row in rows if len(row) + later >= many] + longer
    return rows
