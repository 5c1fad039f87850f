import unittest

from mixedbags.coursechecker import lets_course
from mixedbags.courses import any_course, course_through
from tests.support import (
    HISTORY, SIXTY, START, all_masks, cases, is_course, outcome, possible_masks, pouring_cases, random_history,
    random_trusted, reports_in, same, states_in,
)


class CoursesTest(unittest.TestCase):
    def test_examples(self):
        course = course_through(HISTORY, (2, 3), 2, ("b", "d"))
        self.assertEqual(lets_course(HISTORY, (2, 3), course), 5)
        self.assertEqual(course[2], ("b", "d"))
        self.assertEqual(lets_course(HISTORY, (3,), any_course(HISTORY, (3,))), 5)

    def compare(self, history, trusted):
        possible = possible_masks(history, trusted)
        course = any_course(history, trusted)
        self.assertEqual(course is None, not possible[0])
        if course is not None:
            self.assertIs(type(course), tuple)
            self.assertTrue(is_course(history, trusted, course))
        for moment, masks in enumerate(possible):
            found = states_in(history, masks)
            for state in states_in(history, all_masks(history)):
                course = course_through(history, trusted, moment, state)
                self.assertEqual(course is not None, state in found)
                if course is not None:
                    self.assertTrue(is_course(history, trusted, course))
                    self.assertEqual(lets_course(history, trusted, course), len(history[1]) + 1)
                    self.assertTrue(same(course[moment], state))

    def test_small_histories_against_the_search(self):
        for history, trusted in cases(120, most_places=4):
            self.compare(history, trusted)

    def test_no_and_all_reports(self):
        for seed in range(30):
            history = random_history(seed, 1 + seed % 3, seed % 9)
            self.compare(history, ())
            self.compare(history, reports_in(history))

    def test_many_pours(self):
        for history, trusted in pouring_cases(100):
            self.compare(history, trusted)
            self.compare(history, reports_in(history))

    def test_a_mark_that_may_go_through_one_of_two_pours(self):
        events = (
            ("pour", "cy", ("b",), 1), ("pour", "ann", ("a", "b"), 1), ("pour", "bob", ("a",), 0),
            ("pour", "cy", ("b",), 1), ("pour", "bob", ("b",), 1), ("mix", "ann", ("a", "b")),
            ("mix", "cy", ("a", "b")), ("pour", "dot", ("a",), 0),
        )
        history = ((("a", 1), ("b", 0)), events)
        for trusted in ((3, 7), (7,), (2, 7), (0,), (0, 1), (2, 3, 4, 7)):
            self.compare(history, trusted)

    def test_large_histories(self):
        for seed in range(40):
            history = random_history(seed, 7, 14)
            trusted = random_trusted(seed, history)[:3]
            course = any_course(history, trusted)
            if course is not None:
                self.assertTrue(is_course(history, trusted, course))
                self.assertEqual(course_through(history, trusted, 7, course[7])[7], course[7])

    def test_none(self):
        history = (START, (("look", "cy", "a", 1), ("look", "dot", "a", 0)))
        self.assertIsNone(any_course(history, (0, 1)))
        self.assertIsNone(course_through(history, (0, 1), 0, ("a", "c")))
        self.assertIsNone(course_through(HISTORY, (), 0, ("a",)))
        self.assertIsNone(course_through(HISTORY, (2,), 2, ("b", "c")))
        self.assertIsNotNone(course_through(HISTORY, (), 2, ("b", "c")))

    def test_without_events(self):
        history = ((("a", 1), ("b", None)), ())
        self.assertEqual(course_through(history, (), 0, ("a", "b")), (("a", "b"),))
        self.assertEqual(course_through(history, (), 0, ("a",)), (("a",),))
        self.assertIsNone(course_through(history, (), 0, ()))
        self.assertIn(any_course(history, ()), ((("a",),), (("a", "b"),)))

    def test_long_histories(self):
        names = tuple(sorted(a + b for a in "abcdefghij" for b in "abcdefghij"))
        events = (("mix", "ann", names[:50]), ("pour", "cy", names[25:75], 30), ("mix", "bob", names[50:]))
        history = (tuple((name, None) for name in names), events)
        self.assertEqual(lets_course(history, (1,), any_course(history, (1,))), 4)
        history = ((("a", 1), ("b", 0)), (("mix", "ann", ("a", "b")), ("look", "cy", "b", 1)) * 50)
        self.assertEqual(lets_course(history, (1, 99), any_course(history, (1, 99))), 101)

    def test_errors_in_order(self):
        moment = ("MomentOutOfRange", (("moment", 5),))
        self.assertEqual(outcome(course_through, HISTORY, (0,), 5, ("z",)), moment)
        self.assertEqual(outcome(course_through, HISTORY, (2,), 5, ()), moment)
        name = ("UnknownName", (("name", "e"),))
        self.assertEqual(outcome(course_through, HISTORY, (0,), 4, ("a", "e", "z")), name)
        self.assertEqual(outcome(course_through, HISTORY, (), 0, ("e",)), name)
        self.assertEqual(outcome(course_through, HISTORY, (1, 0), 0, ("a",)), ("NotAReport", (("position", 1),)))
        for position in (0, 4, -1, SIXTY):
            report = ("NotAReport", (("position", position),))
            self.assertEqual(outcome(course_through, HISTORY, (position,), 4, ("a",)), report)
            self.assertEqual(outcome(any_course, HISTORY, (position,)), report)
            self.assertEqual(outcome(any_course, HISTORY, (2, position, 0)), report)

    def test_arguments_by_name(self):
        course = course_through(state=("b", "d"), moment=2, trusted=(2, 3), history=HISTORY)
        self.assertEqual(course[2], ("b", "d"))
        self.assertTrue(is_course(HISTORY, (3,), any_course(trusted=(3,), history=HISTORY)))


if __name__ == "__main__":
    unittest.main()
