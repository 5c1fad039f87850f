"""Writing events and histories as texts."""


def event_line(event):
    """Return the line of an event."""
    if event[0] == "mix":
        return f"mix {event[1]} {_places_word(event[2])}"
    if event[0] == "new":
        return f"new {event[1]} {_mark_word(event[2])}"
    if event[0] == "look":
        return f"look {event[1]} {event[2]} {_mark_word(event[3])}"
    return f"pour {event[1]} {_places_word(event[2])} {event[3]}"


def history_text(history):
    """Return the string of a history."""
    lines = [f"place {place} {_mark_word(mark)}" for place, mark in history[0]]
    return "\n".join(lines + [event_line(event) for event in history[1]])


def _places_word(places):
    return ",".join(places)


def _mark_word(mark):
    if mark is None:
        return "?"
    return str(mark)
