import random
import unittest

from mixedbags.prices import lower_bound, upper_bound
from mixedbags.pricing import best_prices, no_course_prices
from tests import oracles
from tests.support import (
    EMPTY, HISTORY, SIXTY, cases, outcome, possible_masks, question_errors, random_history, random_question,
    range_at, reports_in,
)


class BestPricesTest(unittest.TestCase):
    def test_example(self):
        low = best_prices(HISTORY, (2,), 2, ("b", "c"), is_upper=False)
        self.assertEqual(lower_bound(HISTORY, (2,), 2, ("b", "c"), low), 1)

    def compare(self, chance, history, trusted):
        possible = possible_masks(history, trusted)
        for _ in range(6):
            moment, places = random_question(chance, history)
            found = range_at(history, possible[moment], places)
            high = best_prices(history, trusted, moment, places)
            low = best_prices(history, trusted, moment, places, is_upper=False)
            if found is None:
                self.assertEqual((low, high), (None, None))
                continue
            for prices in (low, high):
                self.assertTrue(oracles.are_prices(history, prices))
                self.assertTrue(oracles.are_level(history, prices))
            self.assertEqual(oracles.slow_bound(history, trusted, moment, places, low, False), found[0])
            self.assertEqual(oracles.slow_bound(history, trusted, moment, places, high, True), found[1])
            self.assertEqual(lower_bound(history, trusted, moment, places, low), found[0])
            self.assertEqual(upper_bound(history, trusted, moment, places, high), found[1])

    def test_bounds_are_the_ends_of_the_range(self):
        chance = random.Random(16)
        for history, trusted in cases(200):
            self.compare(chance, history, trusted)

    def test_no_and_all_reports(self):
        chance = random.Random(17)
        for seed in range(50):
            history = random_history(seed, 1 + seed % 5, seed % 9)
            self.compare(chance, history, ())
            self.compare(chance, history, reports_in(history))

    def test_without_events(self):
        history = ((("a", None), ("b", 1)), ())
        self.assertEqual(best_prices(history, (), 0, ("a", "b")), ())
        self.assertEqual(best_prices(history, (), 0, (), is_upper=False), ())

    def test_errors_in_order(self):
        for is_upper in (True, False):
            def call(trusted, moment, places):
                return best_prices(HISTORY, trusted, moment, places, is_upper=is_upper)
            for found, expected in question_errors(call, HISTORY):
                self.assertEqual(found, expected)

    def test_arguments(self):
        named = {"places": ("a", "b"), "moment": 1, "trusted": (2,), "history": HISTORY}
        high = best_prices(is_upper=True, **named)
        self.assertEqual(oracles.slow_bound(HISTORY, (2,), 1, ("a", "b"), high, True), 1)
        with self.assertRaises(TypeError):
            best_prices(HISTORY, (), 2, ("a",), True)


class NoCoursePricesTest(unittest.TestCase):
    def test_example(self):
        self.assertIsNone(no_course_prices(EMPTY, ()))
        self.assertIsNotNone(no_course_prices(EMPTY, (1,)))

    def compare(self, history, trusted):
        has_course = bool(possible_masks(history, trusted)[0])
        marks = [oracles.slow_marks(history, trusted, s) for s in oracles.slow_stretches(history)]
        prices = no_course_prices(history, trusted)
        self.assertEqual(prices is None, has_course or () in marks)
        if prices is not None:
            self.assertTrue(oracles.are_prices(history, prices))
            self.assertTrue(oracles.are_level(history, prices))
            for moment in (0, len(history[1])):
                self.assertGreater(oracles.slow_bound(history, trusted, moment, (), prices, False), 0)
        return prices is None

    def test_exactly_without_a_course(self):
        results = [self.compare(history, trusted) for history, trusted in cases(300)]
        for seed in range(150):
            history = random_history(seed, 1 + seed % 5, seed % 9)
            results.append(self.compare(history, reports_in(history)))
        self.assertGreater(results.count(False), 30)

    def test_several_contradictions(self):
        history = (
            (("a", 1), ("b", 1), ("c", 0), ("d", 0)),
            (("mix", "ann", ("a", "b", "c")), ("look", "cy", "a", 0), ("look", "cy", "b", 0), ("look", "cy", "c", 0),
             ("pour", "cy", ("a", "b", "d"), 3)),
        )
        for trusted in ((1, 2), (1, 2, 3), (4,), (1, 4), (1, 2, 3, 4), (1, 2, 4)):
            prices = no_course_prices(history, trusted)
            self.assertGreater(oracles.slow_bound(history, trusted, 0, (), prices, False), 0)
        for trusted in ((1,), (2,), (3,), ()):
            self.assertIsNone(no_course_prices(history, trusted))

    def test_a_stretch_without_an_allowed_mark(self):
        history = ((("a", 1), ("b", 0)), (("look", "cy", "a", 0), ("pour", "cy", ("b",), 1)))
        self.assertIsNone(no_course_prices(history, (0, 1)))
        self.assertIsNotNone(no_course_prices(history, (1,)))

    def test_errors(self):
        for position in (0, 4, -1, SIXTY):
            expected = ("NotAReport", (("position", position),))
            self.assertEqual(outcome(no_course_prices, HISTORY, (position, 5)), expected)

    def test_arguments_by_name(self):
        self.assertIsNone(no_course_prices(trusted=(), history=EMPTY))


if __name__ == "__main__":
    unittest.main()
