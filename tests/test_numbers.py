import random
import unittest

from mixedbags.numbers import numbers_of
from mixedbags.ranges import range_of
from tests.support import (
    CLASHING, EMPTY, HISTORY, RING, cases, gap_cases, names_of, numbers_at, numbers_seen, outcome, past_masks, possible_masks,
    question_errors, random_question, reports_in, same, telling_cases, views,
)


class NumbersTest(unittest.TestCase):
    def test_example(self):
        self.assertTrue(same(numbers_of(HISTORY, (2, 3), 2, ("a", "c")), (0, 2)))

    def test_against_the_search(self):
        chance = random.Random(35)
        for history, trusted in cases(250, most_events=9):
            for agreed in (trusted, (), reports_in(history)):
                possible = possible_masks(history, agreed)
                for _ in range(3):
                    moment, places = random_question(chance, history)
                    found = numbers_of(history, agreed, moment, places)
                    self.assertTrue(same(found, tuple(numbers_at(history, possible[moment], places))))

    def test_against_all_courses(self):
        for history, trusted, moment, places in telling_cases(250):
            found = numbers_of(history, trusted, moment, places)
            self.assertTrue(same(found, numbers_seen(views(history, moment, places), trusted)))

    def test_gaps(self):
        gaps = 0
        for history, trusted, moment, places in gap_cases(400):
            found = numbers_of(history, trusted, moment, places)
            self.assertEqual(found, tuple(numbers_at(history, possible_masks(history, trusted)[moment], places)))
            gaps += len(found) > 0 and found[-1] - found[0] >= len(found)
        self.assertGreater(gaps, 10)

    def test_least_and_greatest_are_the_range(self):
        for history, trusted, moment, places in telling_cases(400):
            found = numbers_of(history, trusted, moment, places)
            expected = (found[0], found[-1]) if found else None
            self.assertEqual(range_of(history, trusted, moment, places), expected)

    def test_no_gap_at_the_last_moment(self):
        for history, trusted, _, places in telling_cases(400):
            found = numbers_of(history, trusted, len(history[1]), places)
            self.assertEqual(found, tuple(range(found[0], found[-1] + 1)) if found else ())

    def test_more_trusted_reports_add_no_number(self):
        for history, trusted, moment, places in telling_cases(200):
            more = set(numbers_of(history, reports_in(history), moment, places))
            some = set(numbers_of(history, trusted, moment, places))
            self.assertTrue(more <= some <= set(numbers_of(history, (), moment, places)))

    def test_rings(self):
        self.assertEqual(numbers_of(RING, (3, 4, 5), 3, ("a", "c", "e")), (0, 3))
        self.assertEqual(numbers_of(RING, (4,), 3, ("a", "c", "e")), (0, 1, 2, 3))
        self.assertEqual(numbers_of(RING, (3, 4, 5), 6, ("a", "c", "e")), (0, 1, 2, 3))
        self.assertEqual(numbers_of(RING, (3, 4, 5), 3, ("b", "d", "f")), (0, 3))
        self.assertEqual(numbers_of(RING, (3, 4, 5), 3, ("a", "d", "e")), (1, 2))

    def test_without_a_course(self):
        self.assertEqual(numbers_of(EMPTY, (1,), 0, ("a",)), ())
        self.assertEqual(numbers_of(EMPTY, (1,), 0, ()), ())
        self.assertEqual(numbers_of(CLASHING, (0,), 3, ("b",)), ())

    def test_places_and_moments(self):
        for moment in range(5):
            self.assertEqual(numbers_of(HISTORY, (), moment, ()), (0,))
            self.assertEqual(numbers_of(HISTORY, (2,), moment, tuple("abcd")), (2,))
        self.assertEqual(numbers_of(((("a", None),), ()), (), 0, ("a",)), (0, 1))

    def test_seven_places(self):
        names = tuple("abcdefg")
        history = (tuple((name, None) for name in names), (("mix", "ann", names),) * 7 + (("pour", "cy", names, 3),) * 7)
        self.assertEqual(numbers_of(history, (), 14, names), tuple(range(8)))
        self.assertEqual(numbers_of(history, (13,), 0, names[:5]), (1, 2, 3))
        self.assertEqual(len(past_masks(history, ())[0]), 128)

    def test_errors_in_order(self):
        for found, expected in question_errors(lambda t, m, p: numbers_of(HISTORY, t, m, p), HISTORY):
            self.assertEqual(found, expected)
        self.assertEqual(outcome(numbers_of, HISTORY, (True,), 0, ()), ("NotAReport", (("position", True),)))

    def test_arguments_by_name(self):
        self.assertEqual(numbers_of(places=("a", "c"), moment=2, trusted=(2, 3), history=HISTORY), (0, 2))
        self.assertEqual(names_of(HISTORY), tuple("abcd"))


if __name__ == "__main__":
    unittest.main()
