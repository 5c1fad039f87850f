"""Who and what occurs in a history: its places, its persons, its reports."""

from mixedbags.kinds import is_integer


def places_of(history):
    """Return the ascending tuple of the places."""
    return tuple([place for place, mark in history[0]])


def places_in(event):
    """Return the tuple of the places of an event."""
    if event[0] == "new":
        return (event[1],)
    if event[0] == "look":
        return (event[2],)
    return event[2]


def persons_of(history):
    """Return the ascending tuple of the persons."""
    found = {event[1]: True for event in history[1] if event[0] != "new"}
    return tuple(sorted(found))


def reports_of(history):
    """Return the ascending tuple of the indices of all reports."""
    return tuple([at for at, event in enumerate(history[1]) if is_report(event)])


def reports_by(history, persons):
    """Return the ascending tuple of the indices of the reports of these persons."""
    return tuple([at for at in reports_of(history) if history[1][at][1] in persons])


def joined(positions, others):
    """Return the ascending tuple of the indices that are in one of two tuples or in both."""
    found = {at: True for at in (*positions, *others)}
    return tuple(sorted(found))


def without(positions, at):
    """Return a tuple of positions without the one at this index."""
    return positions[:at] + positions[at + 1:]


def is_report(event):
    """Return whether an event is a look or a pour."""
    return event[0] == "look" or event[0] == "pour"


def is_report_index(history, position):
    """Return whether any value is the index of a report."""
    if not is_integer(position) or not 0 <= position < len(history[1]):
        return False
    return is_report(history[1][position])
