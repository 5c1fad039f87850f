"""What can be said at a desk besides rows: world lines and queries."""

from mixedbags.errors import InvalidText
from mixedbags.eventwords import is_number_word, places_written
from mixedbags.kinds import is_places
from mixedbags.rowreadings import read_log, read_row

QUERIES = {
    "undo": (),
    "count": (),
    "log": (),
    "trusted": (),
    "range": ("number", "names"),
    "numbers": ("number", "names"),
    "moved": ("names",),
    "cost": ("names",),
    "settled": ("names", "number", "number"),
    "looks": ("names", "number", "number"),
}


def start_said(text):
    """Return the start that a world line writes, or None if the string is no world line."""
    try:
        log = read_log([text])
    except InvalidText:
        return None
    return log[0][1]


def row_said(text):
    """Return the row that a string writes, or None if it writes none."""
    try:
        return read_row(text)
    except InvalidText:
        return None


def query_said(text):
    """Return the tuple of the word of a query and its arguments, or None if the string writes no query."""
    words = text.split(" ")
    if words[0] not in QUERIES:
        return None
    roles = QUERIES[words[0]]
    if len(words) != len(roles) + 1:
        return None
    if not all([_can_be(word, role) for word, role in zip(words[1:], roles)]):
        return None
    query = [words[0]]
    for word, role in zip(words[1:], roles):
        query.append(_written(word, role))
    if roles == ("names", "number", "number") and query[2] > query[3]:
        return None
    return tuple(query)


def _can_be(word, role):
    if role == "number":
        return is_number_word(word)
    return word == "-" or is_places(places_written(word))


def _written(word, role):
    if role == "number":
        return int(word)
    if word == "-":
        return ()
    return places_written(word)
