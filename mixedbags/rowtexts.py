"""Writing the rows and the logs of worlds as lines."""

from mixedbags.historytexts import event_line, mark_word
from mixedbags.rowkinds import is_turn


def row_line(row):
    """Return the line of a row."""
    if is_turn(row):
        return f"{row[0]} {row[1]}"
    return event_line(row)


def log_lines(log):
    """Return the list of the lines of a log."""
    entries = [f"{place}:{mark_word(mark)}" for place, mark in log[0][1]]
    return ["world " + ",".join(entries), *[row_line(row) for row in log[1:]]]
