import random
import unittest

from mixedbags.laststeps import best_state, steps_between
from mixedbags.steppapers import step_paper
from tests.support import (
    BAD, CLASHING, EMPTY, HISTORY, SIXTY, cases, gap_cases, is_course, names_of, outcome, possible_masks, random_history,
    random_trusted, reports_in, same, state_of, states_in,
)

FREE = (tuple((name, None) for name in "abcdefg"), ())


def last_states(history, trusted):
    return states_in(history, possible_masks(history, trusted)[-1])


def is_row(states, one, other, row):
    """Whether a row of possible states leads from one state to the other by steps that come nearer."""
    if type(row) is not tuple or row[0] != one or row[-1] != other or not set(row) <= set(states):
        return False
    for before, after in zip(row, row[1:]):
        gained, lost = set(after) - set(before), set(before) - set(after)
        if (len(gained), len(lost)) not in ((1, 0), (0, 1), (1, 1)):
            return False
        if len(set(after) ^ set(other)) >= len(set(before) ^ set(other)):
            return False
    return True


def step_errors(call, history):
    """Pairs of what a function of two states does and has to do with wrong places and positions."""
    for one in ((), ("a",), ("a", "h"), ("aa", "h"), ("z",)):
        for other in ((), ("b",), ("b", "i"), ("bb",)):
            for trusted in ((), reports_in(history), (-1,), (0, 9), (SIXTY,), (True,)):
                names = [name for name in (*one, *other) if name not in names_of(history)]
                wrong = [at for at in trusted if type(at) is bool or at not in reports_in(history)]
                if names:
                    yield outcome(call, history, trusted, one, other), ("UnknownName", (("name", names[0]),))
                elif wrong:
                    yield outcome(call, history, trusted, one, other), ("NotAReport", (("position", wrong[0]),))


class StepsBetweenTest(unittest.TestCase):
    def check(self, history, trusted, one, other, states):
        row = steps_between(history, trusted, one, other)
        self.assertTrue(is_row(states, one, other, row), row)
        return len(row) - 1

    def test_example(self):
        self.assertTrue(same(steps_between(HISTORY, (2, 3), ("a", "b"), ("a", "c")), (("a", "b"), ("a", "c"))))

    def test_any_two_possible_states(self):
        steps = 0
        for history, trusted in cases(150, most_events=9):
            states = last_states(history, trusted)
            for one in states:
                for other in states[::1 + len(states) // 8]:
                    steps = max(steps, self.check(history, trusted, one, other, states))
        self.assertGreater(steps, 3)

    def test_where_not_all_states_are_possible(self):
        seen = 0
        for history, trusted, _, _ in gap_cases(150):
            states = last_states(history, trusted)
            seen += 1 < len(states) < 2 ** (len(history[0]) - 2)
            for one in states:
                for other in states:
                    self.check(history, trusted, one, other, states)
        self.assertGreater(seen, 30)

    def test_from_a_state_to_itself(self):
        for state in last_states(HISTORY, (2, 3)):
            self.assertTrue(same(steps_between(HISTORY, (2, 3), state, state), (state,)))
        self.assertEqual(steps_between(((("a", None),), ()), (), (), ()), ((),))

    def test_states_that_are_not_possible(self):
        for history, trusted in cases(80, most_places=4):
            states = last_states(history, trusted)
            for mask in range(1 << len(history[0])):
                state = state_of(history, mask)
                if state not in states:
                    for other in (*states[:2], state, ()):
                        self.assertIsNone(steps_between(history, trusted, state, other))
                        self.assertIsNone(steps_between(history, trusted, other, state))
                        self.assertIsNone(step_paper(history, trusted, state, other))

    def test_without_a_course(self):
        for history, trusted in ((BAD, (0,)), (EMPTY, (1,)), (CLASHING, (0,))):
            for state in ((), ("a",)):
                self.assertIsNone(steps_between(history, trusted, state, state))
                self.assertIsNone(step_paper(history, trusted, state, ()))

    def test_seven_places(self):
        names = tuple("abcdefg")
        self.assertEqual(self.check(FREE, (), (), names, last_states(FREE, ())), 7)
        self.assertGreaterEqual(self.check(FREE, (), ("a", "b", "c"), ("d", "e", "f"), last_states(FREE, ())), 3)
        for seed in range(12):
            history = random_history(seed, 7, 14)
            trusted = random_trusted(seed, history)
            states = last_states(history, trusted)
            for one in states[::5]:
                for other in states[::7]:
                    self.check(history, trusted, one, other, states)

    def test_errors(self):
        for call in (steps_between, step_paper):
            errors = list(step_errors(call, HISTORY))
            self.assertGreater(len(errors), 80)
            for found, expected in errors:
                self.assertTrue(same(found, expected), (found, expected))

    def test_arguments_by_name(self):
        found = steps_between(other=("a", "c"), one=("a", "b"), trusted=(2, 3), history=HISTORY)
        self.assertEqual(found, (("a", "b"), ("a", "c")))


class StepPaperTest(unittest.TestCase):
    def test_courses_lead_to_the_states_of_a_row(self):
        for history, trusted in cases(80, most_events=9):
            states = last_states(history, trusted)
            for one in states[:5]:
                for other in states[-5:]:
                    paper = step_paper(history, trusted, one, other)
                    self.assertIs(type(paper), tuple)
                    self.assertTrue(all(is_course(history, trusted, course) for course in paper))
                    self.assertTrue(is_row(states, one, other, tuple(course[-1] for course in paper)))

    def test_edges(self):
        self.assertEqual(len(step_paper(HISTORY, (2, 3), ("a", "b"), ("c", "d"))), 3)
        self.assertEqual(step_paper(((("a", None),), ()), (), ("a",), ("a",)), ((("a",),),))
        self.assertEqual(step_paper(((("a", None),), ()), (), (), ("a",)), (((),), (("a",),)))

    def test_arguments_by_name(self):
        paper = step_paper(other=("a", "c"), one=("a", "b"), trusted=(2, 3), history=HISTORY)
        self.assertEqual([course[-1] for course in paper], [("a", "b"), ("a", "c")])


class BestStateTest(unittest.TestCase):
    def slow_best(self, history, trusted, values):
        worths = dict(values)
        rows = [(-sum(worths.get(name, 0) for name in state), state) for state in last_states(history, trusted)]
        return min(rows)[1] if rows else None

    def test_example(self):
        self.assertTrue(same(best_state(HISTORY, (2, 3), (("a", 1), ("d", 2))), ("b", "d")))

    def test_against_all_states(self):
        chance = random.Random(68)
        seen = set()
        for history, trusted in cases(300, most_events=9):
            for most in (1, 2, 5, SIXTY):
                values = tuple((name, chance.randint(-most, most)) for name in names_of(history) if chance.random() < 0.8)
                found = best_state(history, trusted, values)
                self.assertTrue(same(found, self.slow_best(history, trusted, values)))
                seen.add(found)
        self.assertGreater(len(seen), 20)
        self.assertIn(None, seen)

    def test_values(self):
        for values, expected in (((), ("a", "b")), ((("a", -1),), ("b", "d")), ((("b", -1),), ("a", "c")),
                                 ((("a", -5), ("b", -5)), ("c", "d")), ((("c", SIXTY), ("d", SIXTY)), ("c", "d")),
                                 ((("b", SIXTY - 1), ("c", SIXTY)), ("a", "c")), ((("a", 0), ("d", 0)), ("a", "b")),
                                 ((("a", -SIXTY), ("b", 1), ("c", 1), ("d", 1)), ("b", "d")), ((("b", 1), ("c", 1)), ("a", "b"))):
            self.assertEqual(best_state(HISTORY, (2, 3), values), expected)

    def test_equal_sums(self):
        # As tuples sort, () comes first, and ("a", "b") comes before ("b",).
        self.assertEqual(best_state(FREE, (), ()), ())
        self.assertEqual(best_state(FREE, (), (("b", 1),)), ("a", "b"))
        self.assertEqual(best_state(FREE, (), (("b", 1), ("a", -1))), ("b",))
        self.assertEqual(best_state(FREE, (), (("g", 4),)), tuple("abcdefg"))
        self.assertEqual(best_state(FREE, (), (("c", -1), ("g", 4))), tuple("abdefg"))

    def test_without_a_course(self):
        for history, trusted in ((BAD, (0,)), (EMPTY, (1,)), (CLASHING, (0,))):
            self.assertIsNone(best_state(history, trusted, ()))
            self.assertIsNone(best_state(history, trusted, (("a", -4),)))

    def test_errors(self):
        for values in ((("a", 1),), (("a", 1), ("h", 2), ("i", 0)), (("aa", 0), ("h", 1))):
            for trusted in ((2,), (0,), (2, -1, 9)):
                names = [name for name, _ in values if name not in names_of(HISTORY)]
                wrong = [at for at in trusted if at not in (2, 3)]
                found = outcome(best_state, HISTORY, trusted, values)
                if names:
                    self.assertEqual(found, ("UnknownName", (("name", names[0]),)))
                elif wrong:
                    self.assertEqual(found, ("NotAReport", (("position", wrong[0]),)))
                else:
                    self.assertEqual(found[0], "returns")

    def test_arguments_by_name(self):
        self.assertEqual(best_state(values=(("a", 1), ("d", 2)), trusted=(2, 3), history=HISTORY), ("b", "d"))


if __name__ == "__main__":
    unittest.main()
