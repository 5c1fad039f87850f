import random
import unittest

from mixedbags.ranges import range_of
from tests.support import (
    HISTORY, START, cases, possible_masks, pouring_cases, question_errors, random_history, random_question, random_trusted, range_at,
    reports_in, same, subsets,
)


class RangesTest(unittest.TestCase):
    def test_examples(self):
        self.assertEqual(range_of(HISTORY, (2, 3), 2, ("a", "c")), (0, 2))

    def compare(self, chance, history, trusted):
        possible = possible_masks(history, trusted)
        for _ in range(8):
            moment, places = random_question(chance, history)
            expected = range_at(history, possible[moment], places)
            self.assertTrue(same(range_of(history, trusted, moment, places), expected))

    def test_small_histories_against_the_search(self):
        chance = random.Random(12)
        for history, trusted in cases(250):
            self.compare(chance, history, trusted)

    def test_no_and_all_reports(self):
        chance = random.Random(13)
        for seed in range(60):
            history = random_history(seed, 1 + seed % 5, seed % 9)
            self.compare(chance, history, ())
            self.compare(chance, history, reports_in(history))

    def test_many_pours(self):
        chance = random.Random(25)
        for history, trusted in pouring_cases(200):
            self.compare(chance, history, trusted)

    def test_marks_on_either_of_two_pours(self):
        events = (("mix", "ann", ("a", "b")), ("pour", "cy", ("a",), 0), ("pour", "cy", ("b",), 0))
        history = ((("a", 1), ("b", 0)), events)
        for place in ("a", "b"):
            self.assertEqual(range_of(history, (), 3, (place,)), (0, 1))
        self.assertEqual(range_of(history, (1,), 3, ("a",)), (0, 0))
        self.assertEqual(range_of(history, (1,), 3, ("b",)), (1, 1))

    def test_large_histories_against_the_search(self):
        chance = random.Random(14)
        for seed in range(4):
            history = random_history(seed, 7, 14, unknown=0.8)
            self.compare(chance, history, random_trusted(seed, history)[:2])

    def test_all_questions_of_the_example(self):
        for trusted in ((), (2,), (3,), (2, 3)):
            possible = possible_masks(HISTORY, trusted)
            for moment in range(5):
                for places in subsets("abcd"):
                    expected = range_at(HISTORY, possible[moment], places)
                    self.assertEqual(range_of(HISTORY, trusted, moment, places), expected)

    def test_no_course(self):
        history = (START, (("look", "cy", "a", 1), ("look", "dot", "a", 0)))
        self.assertIsNone(range_of(history, (0, 1), 0, ()))
        self.assertIsNone(range_of(history, (1,), 2, ("a", "b")))
        self.assertEqual(range_of(history, (0,), 2, ("a", "b")), (1, 1))

    def test_without_places_or_events(self):
        self.assertEqual(range_of(HISTORY, (2, 3), 4, ()), (0, 0))
        self.assertEqual(range_of(HISTORY, (), 4, ("a", "b", "c", "d")), (2, 2))
        self.assertEqual(range_of(((("a", None), ("b", 1)), ()), (), 0, ("a", "b")), (1, 2))

    def test_later_reports_count(self):
        history = (START, (("mix", "ann", ("a", "b")), ("look", "cy", "b", 1), ("new", "b", 0)))
        self.assertEqual(range_of(history, (), 1, ("a",)), (0, 1))
        self.assertEqual(range_of(history, (1,), 1, ("a",)), (0, 0))
        self.assertEqual(range_of(history, (1,), 1, ("b",)), (1, 1))

    def test_consequences(self):
        chance = random.Random(15)
        for seed in range(100):
            history = random_history(seed, chance.randint(2, 7), chance.randint(0, 14), unknown=0.7)
            moment, places = random_question(chance, history)
            trusted = random_trusted(seed, history)
            found = range_of(history, trusted, moment, places)
            for more in (reports_in(history), trusted + tuple(k for k in reports_in(history) if not trusted)[:1]):
                within = range_of(history, more, moment, places)
                if within is not None:
                    self.assertTrue(found[0] <= within[0] <= within[1] <= found[1])
            one, two = places[::2], places[1::2]
            if found is not None:
                parts = [range_of(history, trusted, moment, part) for part in (one, two)]
                self.assertGreaterEqual(found[0], parts[0][0] + parts[1][0])
                self.assertLessEqual(found[1], parts[0][1] + parts[1][1])

    def test_errors_in_order(self):
        for found, expected in question_errors(lambda t, m, p: range_of(HISTORY, t, m, p), HISTORY):
            self.assertEqual(found, expected)

    def test_arguments_by_name(self):
        self.assertEqual(range_of(places=("a", "c"), moment=2, trusted=(2, 3), history=HISTORY), (0, 2))


if __name__ == "__main__":
    unittest.main()
