"""The words of the lines of events: which word can stand where."""

from mixedbags.kinds import is_name, is_places

ROLES = {
    "mix": ("kind", "person", "group"),
    "new": ("kind", "place", "mark"),
    "look": ("kind", "person", "place", "seen"),
    "pour": ("kind", "person", "places", "number"),
}

MOST_DIGITS = 60


def wrong_word(words, known):
    """Return the index of the first invalid word, or the number of words if words are missing.

    Return None if the words are an event. known is a dict of the places that may occur,
    or None if any may.
    """
    if words[0] not in ROLES:
        return 0
    return wrong_word_among(words, ROLES[words[0]], known)


def wrong_word_among(words, roles, known):
    """Return the same for a line of which the first word is right and the others have these roles."""
    for at in range(1, len(words)):
        if at == len(roles) or not _can_stand(words, at, roles[at], known):
            return at
    if len(words) < len(roles):
        return len(words)
    return None


def _can_stand(words, at, role, known):
    word = words[at]
    if role == "person":
        return is_name(word)
    if role == "place":
        return _are_known((word,), known)
    if role == "places":
        return _are_known(places_written(word), known)
    if role == "group":
        return len(places_written(word)) >= 2 and _are_known(places_written(word), known)
    if role == "mark":
        return is_mark_word(word)
    if role == "seen":
        return word in ("0", "1")
    return is_number_word(word) and int(word) <= len(places_written(words[at - 1]))


def _are_known(places, known):
    if not is_places(places):
        return False
    return known is None or all([place in known for place in places])


def is_mark_word(word):
    """Return whether the word writes a mark."""
    return word in ("0", "1", "?")


def is_number_word(word):
    """Return whether the word writes a number with at most sixty digits."""
    if not 1 <= len(word) <= MOST_DIGITS or (len(word) > 1 and word[0] == "0"):
        return False
    return all([sign in "0123456789" for sign in word])


def places_written(word):
    """Return the tuple of what the word writes, separated by commas."""
    return tuple(word.split(","))


def mark_written(word):
    """Return the mark that a word writes."""
    if word == "?":
        return None
    return int(word)


def event_written(words):
    """Return the event that the words write, none of which is wrong."""
    if words[0] == "mix":
        return ("mix", words[1], places_written(words[2]))
    if words[0] == "new":
        return ("new", words[1], mark_written(words[2]))
    if words[0] == "look":
        return ("look", words[1], words[2], mark_written(words[3]))
    return ("pour", words[1], places_written(words[2]), int(words[3]))
