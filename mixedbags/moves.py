"""The marks that persons move."""

from mixedbags.counting import mark_in
from mixedbags.movepapers import move_paper


def moved_in(history, course, persons):
    """Return the number of marks that the persons move in the course."""
    total = 0
    for at, event in enumerate(history[1]):
        if event[0] == "mix" and event[1] in persons:
            arrived = [place for place in event[2] if mark_in(course[at], place) < mark_in(course[at + 1], place)]
            total += len(arrived)
    return total


def least_moved(history, trusted, persons):
    """Return the least number of marks that the persons move in a course, or None if there is no course."""
    paper = move_paper(history, trusted, persons)
    if paper is None:
        return None
    return moved_in(history, paper[0], persons)
