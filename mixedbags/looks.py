"""Further looks at the last moment: how few of them settle a statement."""

from mixedbags.answers import answers_with, has_answers, places_left
from mixedbags.counting import number_in
from mixedbags.states import possible_states


class Looks:
    """A statement about a number at the last moment, and the possible states in which it is true or false."""

    def __init__(self, history, trusted, places, low, high):
        self.history = history
        self.trusted = trusted
        self.places = places
        self.low = low
        self.high = high
        self.true_states = []
        self.false_states = []
        for state in possible_states(history, trusted, len(history[1])):
            if low <= number_in(state, places) <= high:
                self.true_states.append(state)
            else:
                self.false_states.append(state)
        # By answers, because many ways lead to the same ones.
        self.kept = {}

    def true_with(self, answers):
        """Return the possible states with these answers in which the statement is true."""
        return [state for state in self.true_states if has_answers(state, answers)]

    def false_with(self, answers):
        """Return the possible states with these answers in which the statement is false."""
        return [state for state in self.false_states if has_answers(state, answers)]

    def fewest_after(self, answers):
        """Return the fewest looks that settle the statement after these answers."""
        if answers not in self.kept:
            self.kept[answers] = self._counted(answers)
        return self.kept[answers]

    def _counted(self, answers):
        if len(self.true_with(answers)) == 0 or len(self.false_with(answers)) == 0:
            return 0
        return 1 + min([max(self.fewest_by_mark(answers, place)) for place in self.left_after(answers)])

    def fewest_by_mark(self, answers, place):
        """Return the fewest looks after a further answer: 0 at this place, and 1."""
        return [self.fewest_after(answers_with(answers, place, mark)) for mark in (0, 1)]

    def left_after(self, answers):
        """Return the places that have no answer yet."""
        return places_left(self.history, answers)

    def best_place(self, answers):
        """Return a place at which the fewest looks after these answers can begin."""
        wanted = self.fewest_after(answers) - 1
        return [place for place in self.left_after(answers) if max(self.fewest_by_mark(answers, place)) == wanted][0]
