"""Range papers."""

from mixedbags.arguments import check_question
from mixedbags.extremes import extreme_of
from mixedbags.pricing import no_course_prices
from mixedbags.stretches import marks_by_stretch


def range_paper(history, trusted, moment, places):
    """Return any range paper of the question."""
    check_question(history, trusted, moment, places)
    marks = marks_by_stretch(history, trusted)
    for stretch in marks:
        if len(marks[stretch]) == 0:
            return ("clash", stretch)
    low = extreme_of(history, trusted, moment, places, False)
    if low is None:
        return ("none", no_course_prices(history, trusted))
    high = extreme_of(history, trusted, moment, places, True)
    return ("range", *low, *high)
