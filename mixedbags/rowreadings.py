"""Reading the rows and the logs of worlds from their lines."""

from mixedbags.errors import InvalidText
from mixedbags.eventwords import event_written, is_mark_word, mark_written, wrong_word, wrong_word_among
from mixedbags.kinds import is_places


def read_row(text):
    """Return the row that a line writes. Raise InvalidText if it writes none."""
    return _row_read(text, 0)


def read_log(lines):
    """Return the log that a list of lines writes. Raise InvalidText for the first line that is not valid."""
    if len(lines) == 0:
        raise InvalidText(0, 0)
    log = [_first_read(lines[0])]
    for at in range(1, len(lines)):
        log.append(_row_read(lines[at], at))
    return tuple(log)


def _row_read(text, line):
    words = text.split(" ")
    is_turn = words[0] in ("trust", "distrust")
    if is_turn:
        field = wrong_word_among(words, ("kind", "person"), None)
    else:
        field = wrong_word(words, None)
    if field is not None:
        raise InvalidText(line, field)
    if is_turn:
        return (words[0], words[1])
    return event_written(words)


def _first_read(text):
    words = text.split(" ")
    if words[0] != "world":
        raise InvalidText(0, 0)
    if len(words) == 1 or not _is_start_word(words[1]):
        raise InvalidText(0, 1)
    if len(words) > 2:
        raise InvalidText(0, 2)
    return ("world", tuple([(place, mark_written(mark)) for place, mark in _pairs_written(words[1])]))


def _is_start_word(word):
    if not all([part.count(":") == 1 for part in word.split(",")]):
        return False
    pairs = _pairs_written(word)
    return is_places(tuple([place for place, _ in pairs])) and all([is_mark_word(mark) for _, mark in pairs])


def _pairs_written(word):
    """Return the list of the pairs of words that are joined by colons."""
    return [tuple(part.split(":")) for part in word.split(",")]
