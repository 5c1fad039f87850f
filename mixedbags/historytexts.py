"""Writing events and histories as texts."""


def event_line(event):
    """Return the line of an event."""
    if event[0] == "mix":
        return f"mix {event[1]} {names_word(event[2])}"
    if event[0] == "new":
        return f"new {event[1]} {mark_word(event[2])}"
    if event[0] == "look":
        return f"look {event[1]} {event[2]} {mark_word(event[3])}"
    return f"pour {event[1]} {names_word(event[2])} {event[3]}"


def history_text(history):
    """Return the string of a history."""
    lines = [f"place {place} {mark_word(mark)}" for place, mark in history[0]]
    return "\n".join(lines + [event_line(event) for event in history[1]])


def names_word(names):
    """Return the word that writes names."""
    return ",".join(names)


def mark_word(mark):
    """Return the word that writes a mark."""
    if mark is None:
        return "?"
    return str(mark)
