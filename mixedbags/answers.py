"""Answers of further looks: an ascending tuple of pairs of a place and the mark that was seen there."""

from mixedbags.counting import mark_in
from mixedbags.reports import places_of


def answers_with(answers, place, mark):
    """Return the answers together with the one of this place."""
    return tuple(sorted((*answers, (place, mark))))


def places_left(history, answers):
    """Return the list of the places, in ascending order, that have no answer yet."""
    seen = [place for place, _ in answers]
    return [place for place in places_of(history) if place not in seen]


def has_answers(state, answers):
    """Return whether the state has the marks that the answers say."""
    return all([mark_in(state, place) == mark for place, mark in answers])
