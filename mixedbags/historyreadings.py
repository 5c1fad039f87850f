"""Reading events and histories from their texts."""

from mixedbags.errors import InvalidText
from mixedbags.eventwords import event_written, is_mark_word, mark_written, wrong_word
from mixedbags.kinds import is_name


def event_read(text, *, line=0):
    """Return the event that a string writes. Raise InvalidText if it writes none."""
    words = text.split(" ")
    field = wrong_word(words, None)
    if field is not None:
        raise InvalidText(line, field)
    return event_written(words)


def history_read(text):
    """Return the history that a string writes. Raise InvalidText for the first line that is not valid."""
    marks = {}
    last = ""
    events = []
    for line, row in enumerate(text.split("\n")):
        words = row.split(" ")
        is_place_line = line == 0 or (words[0] == "place" and len(events) == 0)
        field = _wrong_word_of_line(words, is_place_line, last, marks)
        if field is not None:
            raise InvalidText(line, field)
        if is_place_line:
            last = words[1]
            marks[last] = mark_written(words[2])
        else:
            events.append(event_written(words))
    return (tuple(marks.items()), tuple(events))


def _wrong_word_of_line(words, is_place_line, last, known):
    if not is_place_line:
        return wrong_word(words, known)
    if words[0] != "place":
        return 0
    if len(words) == 1 or not is_name(words[1]) or words[1] <= last:
        return 1
    if len(words) == 2 or not is_mark_word(words[2]):
        return 2
    if len(words) > 3:
        return 3
    return None
