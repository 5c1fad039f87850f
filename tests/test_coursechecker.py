import copy
import random
import unittest

from mixedbags.coursechecker import lets_course
from mixedbags.errors import BagsError, InvalidPaper, NotAReport, PaperError
from tests import oracles
from tests.support import (
    HISTORY, ODD_VALUES, SIXTY, START, cases, changed, outcome, paper_error, random_course, random_history,
    random_trusted, reports_in, same, states_in, all_masks,
)

STILL = (("a", "c"),) * 5


class CourseCheckerTest(unittest.TestCase):
    def refuses(self, history, trusted, thing, word, at):
        self.assertEqual(outcome(lets_course, history, trusted, thing), paper_error(word, at), thing)

    def test_example(self):
        self.assertEqual(lets_course(HISTORY, (2, 3), STILL), 5)

    def test_courses_that_the_search_finds(self):
        for at, (history, trusted) in enumerate(cases(150)):
            course = random_course(at, history, trusted)
            if course is not None:
                self.assertEqual(lets_course(history, trusted, course), len(history[1]) + 1)

    def test_one_state_and_an_empty_state(self):
        self.assertEqual(lets_course(((("a", 0),), ()), (), ((),)), 1)
        self.assertEqual(lets_course(((("a", None),), ()), (), (("a",),)), 1)

    def test_many_places_and_events(self):
        names = tuple(sorted(a + b for a in "abcdefghij" for b in "abcdefghij"))
        history = (tuple((name, None) for name in names), (("pour", "cy", names, 50), ("mix", "ann", names)) * 50)
        course = (names[:50], names[50:], names[25:75]) + (names[::2],) * 98
        self.assertEqual(lets_course(history, tuple(range(0, 100, 2)), course), 101)
        self.refuses(history, (98,), course[:99] + (names[:51],) * 2, "event", 98)

    def test_shape(self):
        for thing in ODD_VALUES:
            if thing not in ((), ((),), ((), ())):
                self.refuses(HISTORY, (2,), thing, "shape", -1)
        for state in ("ac", ["a", "c"], ("a", 1), ("a", True), ("a", "C"), ("a", ""), ("abcdefghi",), None, (("a",),)):
            self.refuses(HISTORY, (), STILL[:4] + (state,), "shape", -1)
        self.refuses(HISTORY, (), list(STILL), "shape", -1)

    def test_many(self):
        for count in (0, 1, 4, 6, 100):
            self.refuses(HISTORY, (), (("a", "c"),) * count, "many", -1)
        self.refuses(HISTORY, (), (("z",),) * 4, "many", -1)

    def test_state(self):
        for state in (("c", "a"), ("a", "a"), ("a", "e"), ("aa",), ("a", "c", "b")):
            self.refuses(HISTORY, (), STILL[:3] + (state, ("z",)), "state", 3)
        self.refuses(HISTORY, (), (("b",),) + (("z",),) * 4, "state", 1)

    def test_start(self):
        for state in ((), ("a",), ("a", "b", "c"), ("a", "c", "d"), ("b", "d")):
            self.refuses(HISTORY, (), (state,) + STILL[1:], "start", -1)
        loose = ((("a", None), ("b", 1)), ())
        self.assertEqual([lets_course(loose, (), (state,)) for state in (("b",), ("a", "b"))], [1, 1])
        self.refuses(loose, (), (("a",),), "start", -1)

    def test_events_of_all_kinds(self):
        history = ((("a", None), ("b", None), ("c", None)), None)
        steps = {
            ("mix", "ann", ("a", "b")): ((("a",), ("b",), 1), (("a", "c"), ("b", "c"), 1), (("a",), ("a", "b"), 0),
                                         (("a",), ("c",), 0), (("a", "c"), ("b",), 0), ((), ("c",), 0)),
            ("pour", "cy", ("a", "b"), 1): ((("a",), ("b",), 1), (("a", "b"), ("a", "b"), 1), (("a",), ("c",), 0),
                                            (("a",), ("a", "c"), 0)),
            ("new", "a", None): (((), ("a",), 1), (("a",), (), 1), (("a", "b"), ("b",), 1), (("a",), ("b",), 0)),
            ("new", "a", 1): (((), ("a",), 1), (("a",), (), 0), (("a",), ("a",), 1), (("b",), ("a",), 0)),
            ("new", "a", 0): (((), ("a",), 0), (("a",), (), 1), ((), (), 1), (("a", "c"), ("b",), 0)),
            ("look", "cy", "a", 1): ((("a",), ("a",), 1), ((), (), 1), (("a",), (), 0), (("b",), ("c",), 0)),
        }
        for event, rows in steps.items():
            for before, after, is_fit in rows:
                course = (before, after)
                if is_fit:
                    self.assertEqual(lets_course((history[0], (event,)), (), course), 2)
                else:
                    self.refuses((history[0], (event,)), (), course, "event", 0)

    def test_looks_at_places_with_long_names(self):
        history = ((("a", 1), ("ab", None), ("b", None)), (("look", "cy", "ab", 1), ("look", "cy", "ab", 0)))
        self.assertEqual(lets_course(history, (0,), (("a", "ab"),) * 3), 3)
        self.assertEqual(lets_course(history, (1,), (("a", "b"),) * 3), 3)
        self.refuses(history, (0,), (("a", "b"),) * 3, "report", 0)
        self.refuses(history, (1,), (("a", "ab"),) * 3, "report", 1)
        self.refuses(history, (), (("a",), ("a", "b"), ("a", "b")), "event", 0)
        self.refuses(history, (), (("a", "b"), ("a", "b"), ("a", "ab")), "event", 1)

    def test_reports_only_if_they_are_trusted(self):
        history = (START, (("look", "cy", "a", 0), ("pour", "cy", ("a", "c"), 1), ("look", "cy", "d", 0)))
        self.assertEqual(lets_course(history, (2,), STILL[:4]), 4)
        self.refuses(history, (0, 1, 2), STILL[:4], "report", 0)
        self.refuses(history, (1, 2), STILL[:4], "report", 1)

    def test_event_before_report_by_index(self):
        history = (START, (("look", "cy", "a", 0), ("look", "cy", "a", 0)))
        moved = (("a", "c"), ("a", "c"), ("b", "c"))
        self.refuses(history, (0,), moved, "report", 0)
        self.refuses(history, (1,), moved, "event", 1)
        self.refuses(history, (0, 1), (("a", "c"), ("b", "c"), ("a", "c")), "event", 0)

    def test_trusted_comes_first(self):
        for trusted, position in (((0,), 0), ((4,), 4), ((-1,), -1), ((-2, 2), -2), ((2, 3, SIXTY), SIXTY), ((2, 1), 1)):
            for thing in (STILL, (), None, "x"):
                expected = ("NotAReport", (("position", position),))
                self.assertEqual(outcome(lets_course, HISTORY, trusted, thing), expected)

    def test_changed_values_against_the_oracle(self):
        chance = random.Random(3)
        seen = set()
        for seed in range(3000):
            history = random_history(seed, chance.randint(1, 5), chance.randint(0, 6))
            trusted = random_trusted(seed, history)
            course = random_course(seed, history, trusted)
            if course is None:
                course = random_course(seed, history, ())
            thing = changed(chance, course or (), chance.choice((0, 1, 1, 2)))
            before = copy.deepcopy(thing)
            reason = oracles.course_reason(history, trusted, thing)
            expected = ("returns", len(history[1]) + 1) if reason is None else paper_error(*reason)
            self.assertEqual(outcome(lets_course, history, trusted, thing), expected)
            self.assertTrue(same(thing, before))
            seen.add(reason and reason[0])
        self.assertEqual(seen, {None, "shape", "many", "state", "start", "event", "report"})

    def test_changed_states_against_the_oracle(self):
        chance = random.Random(4)
        for seed in range(2000):
            history = random_history(seed, chance.randint(2, 5), chance.randint(1, 6), unknown=0.8)
            trusted = random_trusted(seed, history)
            course = list(random_course(seed, history, trusted) or random_course(seed, history, ()) or ())
            if course:
                course[chance.randrange(len(course))] = chance.choice(states_in(history, all_masks(history)))
            reason = oracles.course_reason(history, trusted, tuple(course))
            expected = ("returns", len(course)) if reason is None else paper_error(*reason)
            self.assertEqual(outcome(lets_course, history, trusted, tuple(course)), expected)

    def test_families_and_names(self):
        for kind in (InvalidPaper, PaperError, BagsError):
            with self.assertRaises(kind):
                lets_course(thing=None, trusted=(), history=HISTORY)
        with self.assertRaises(NotAReport):
            lets_course(HISTORY, (0,), None)
        self.assertEqual(lets_course(thing=STILL, trusted=reports_in(HISTORY), history=HISTORY), 5)


if __name__ == "__main__":
    unittest.main()
