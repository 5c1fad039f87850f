"""Plans that settle a statement, and answer tables that show that fewer looks do not."""

from mixedbags.answers import answers_with
from mixedbags.arguments import check_statement
from mixedbags.courses import course_through
from mixedbags.extremes import extreme_within
from mixedbags.flows import prices_against
from mixedbags.looks import Looks
from mixedbags.questions import number_of
from mixedbags.stretches import marks_with


def plan_paper(history, trusted, places, low, high):
    """Return any plan whose depth is the fewest looks."""
    check_statement(history, trusted, places)
    return _plan_after(Looks(history, trusted, places, low, high), ())


def _plan_after(looks, answers):
    if looks.fewest_after(answers) == 0:
        return _leaf_after(looks, answers)
    place = looks.best_place(answers)
    plain = _plan_after(looks, answers_with(answers, place, 0))
    marked = _plan_after(looks, answers_with(answers, place, 1))
    return ("look", place, plain, marked)


def _leaf_after(looks, answers):
    last = len(looks.history[1])
    marks = marks_with(looks.history, looks.trusted, last, answers)
    for stretch in marks:
        if len(marks[stretch]) == 0:
            return ("clash", stretch)
    least = extreme_within(looks.history, looks.trusted, marks, last, looks.places, False)
    if least is None:
        return ("never", prices_against(looks.history, looks.trusted, marks))
    if number_of(least[0], last, looks.places) > looks.high:
        return ("greater", least[1])
    greatest = extreme_within(looks.history, looks.trusted, marks, last, looks.places, True)
    if number_of(greatest[0], last, looks.places) < looks.low:
        return ("less", greatest[1])
    # The statement is settled, and the numbers have no gap, so that all of them are from low to high.
    return ("yes", least[1], greatest[1])


def answer_paper(history, trusted, places, low, high, size):
    """Return any answer table of this size, or None if so many looks are sufficient."""
    check_statement(history, trusted, places)
    looks = Looks(history, trusted, places, low, high)
    if size >= looks.fewest_after(()):
        return None
    marks = _marks_by_answers(looks, size)
    courses = {}
    rows = []
    for answers in sorted(marks):
        within = _course_to(looks, courses, looks.true_with(answers)[0])
        outside = _course_to(looks, courses, looks.false_with(answers)[0])
        rows.append((answers, within, outside, marks[answers]))
    return tuple(rows)


def _marks_by_answers(looks, size):
    """Return a dict with the marks of the row of each answers to which the answers of a table lead."""
    marks = {}
    waiting = [()]
    while waiting:
        answers = waiting.pop()
        if answers not in marks:
            marks[answers] = ()
            if len(answers) < size:
                places = looks.left_after(answers)
                marks[answers] = tuple([_lasting_mark(looks, answers, place) for place in places])
                for place, mark in zip(places, marks[answers]):
                    waiting.append(answers_with(answers, place, mark))
    return marks


def _lasting_mark(looks, answers, place):
    """Return the mark of the place that leaves the most looks to be made."""
    plain, marked = looks.fewest_by_mark(answers, place)
    if marked > plain:
        return 1
    return 0


def _course_to(looks, courses, state):
    if state not in courses:
        courses[state] = course_through(looks.history, looks.trusted, len(looks.history[1]), state)
    return courses[state]
