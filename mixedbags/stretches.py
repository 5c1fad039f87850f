"""Stretches: the bags that stay at one place from one event to another."""

from mixedbags.arguments import check_moment, check_places, check_reports
from mixedbags.reports import places_in


def stretches_of(history):
    """Return the ascending tuple of all stretches."""
    found = []
    cuts = _cuts_by_place(history)
    for place, _ in history[0]:
        ends = cuts[place]
        for at in range(1, len(ends)):
            found.append((place, ends[at - 1], ends[at]))
    return tuple(found)


def _cuts_by_place(history):
    cuts = {place: [-1] for place, mark in history[0]}
    for at, event in enumerate(history[1]):
        if event[0] != "look":
            for place in places_in(event):
                cuts[place].append(at)
    for place, _ in history[0]:
        cuts[place].append(len(history[1]))
    return cuts


def stretch_at(history, place, moment):
    """Return the stretch of the place at this moment."""
    check_moment(history, moment)
    check_places(history, (place,))
    begin = -1
    for at, event in enumerate(history[1]):
        if event[0] != "look" and place in places_in(event):
            if at >= moment:
                return (place, begin, at)
            begin = at
    return (place, begin, len(history[1]))


def allowed_marks(history, trusted, stretch):
    """Return the ascending tuple of the allowed marks of a stretch."""
    check_reports(history, trusted)
    return _marks_left(history, trusted, stretch)


def marks_by_stretch(history, trusted):
    """Return a dict with the allowed marks of each stretch, in the order of the stretches."""
    return {stretch: _marks_left(history, trusted, stretch) for stretch in stretches_of(history)}


def marks_with(history, trusted, moment, held):
    """Return the same, if at the moment the places have the marks of the pairs (place, mark) of held."""
    marks = marks_by_stretch(history, trusted)
    for place, wanted in held:
        stretch = stretch_at(history, place, moment)
        marks[stretch] = tuple([mark for mark in marks[stretch] if mark == wanted])
    return marks


def _marks_left(history, trusted, stretch):
    place, begin, end = stretch
    told = [_mark_at_begin(history, place, begin)]
    for at in trusted:
        event = history[1][at]
        if begin < at < end and event[0] == "look" and event[2] == place:
            told.append(event[3])
    return tuple([mark for mark in (0, 1) if 1 - mark not in told])


def _mark_at_begin(history, place, begin):
    if begin == -1:
        return dict(history[0])[place]
    event = history[1][begin]
    if event[0] == "new":
        return event[2]
    return None
