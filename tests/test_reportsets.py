import random
import unittest

from mixedbags.knowledge import is_known
from mixedbags.reportsets import sufficient_sets
from tests.support import (
    CLASHING, EIGHT, HISTORY, QUARREL, SIXTY, candidate_errors, cases, telling_cases, minimal_forcing, random_question, reports_in,
    same, subsets, views,
)


class SufficientSetsTest(unittest.TestCase):
    def test_example(self):
        self.assertTrue(same(sufficient_sets(HISTORY, (), (2, 3), 2, ("b", "c"), 1, 1), ((2,), (3,))))

    def test_against_all_subsets(self):
        chance = random.Random(30)
        sizes = set()
        for history, trusted, moment, places in telling_cases(400):
            seen = views(history, moment, places)
            candidates = tuple(at for at in reports_in(history) if chance.random() < 0.8)
            for _ in range(4):
                low = chance.randint(-1, len(places) + 1)
                high = chance.choice((low, low, chance.randint(-1, len(places) + 1)))
                found = sufficient_sets(history, trusted, candidates, moment, places, low, high)
                allowed = [number for number in range(len(places) + 1) if low <= number <= high]
                self.assertTrue(same(found, minimal_forcing(seen, trusted, candidates, allowed)))
                sizes |= {len(chosen) for chosen in found} | ({None} if found == () else set())
        self.assertTrue(sizes >= {None, 0, 1, 2, 3})

    def test_a_set_is_sufficient_exactly_if_the_question_is_known(self):
        chance = random.Random(31)
        for history, trusted in cases(80, most_places=4):
            moment, places = random_question(chance, history)
            reports = reports_in(history)
            low = chance.randint(0, len(places))
            found = sufficient_sets(history, trusted, reports, moment, places, low, low)
            for chosen in subsets(reports):
                agreed = tuple(sorted(set(trusted) | set(chosen)))
                expected = any(set(part) <= set(chosen) for part in found)
                self.assertIs(is_known(history, agreed, moment, places, low, low), expected)

    def test_candidates_that_are_trusted_already(self):
        self.assertEqual(sufficient_sets(HISTORY, (2,), (2, 3), 2, ("b", "c"), 1, 1), ((),))
        self.assertEqual(sufficient_sets(HISTORY, (2,), (2, 3), 2, ("a", "c"), 0, 0), ())
        self.assertEqual(sufficient_sets(QUARREL, (0,), (0, 1, 2), 0, ("c",), 5, 5), ((1,), (2,)))

    def test_no_candidates(self):
        self.assertEqual(sufficient_sets(HISTORY, (), (), 2, ("b", "c"), 1, 1), ())
        self.assertEqual(sufficient_sets(HISTORY, (), (), 2, ("b", "c"), 0, 2), ((),))
        self.assertEqual(sufficient_sets(HISTORY, (2, 3), (), 2, ("b", "c"), 1, 1), ((),))

    def test_reports_that_repeat_each_other(self):
        every = tuple(range(8))
        self.assertEqual(sufficient_sets(EIGHT, (), every, 0, ("a", "b"), 1, 1), tuple((at,) for at in every))
        self.assertEqual(sufficient_sets(EIGHT, (3,), every, 0, ("a", "b"), 1, 1), ((),))
        self.assertEqual(sufficient_sets(EIGHT, (), every, 0, ("a", "b"), 0, 0), ())

    def test_reports_that_contradict_each_other_are_sufficient_for_all(self):
        reports = reports_in(QUARREL)
        for low, high in ((5, 9), (1, 0), (-3, -1)):
            found = sufficient_sets(QUARREL, (), reports, 0, ("a",), low, high)
            self.assertEqual(found, ((0, 1), (2,)))
        self.assertEqual(sufficient_sets(QUARREL, (), reports, 0, ("a",), 1, 1), ((1,), (2,)))
        self.assertEqual(sufficient_sets(CLASHING, (0,), (2,), 0, ("a",), 9, 9), ((),))

    def test_limits(self):
        for low, high, expected in ((-SIXTY, SIXTY, ((),)), (SIXTY, -SIXTY, ()), (0, SIXTY, ((),)), (2, 0, ()),
                                    (3, SIXTY, ()), (-SIXTY, -1, ()), (1, SIXTY, ((2,), (3,))), (-SIXTY, 1, ((2,), (3,)))):
            self.assertEqual(sufficient_sets(HISTORY, (), (2, 3), 2, ("b", "c"), low, high), expected)

    def test_edges_of_the_question(self):
        for moment in (0, 4):
            self.assertEqual(sufficient_sets(HISTORY, (), (2, 3), moment, (), 0, 0), ((),))
            self.assertEqual(sufficient_sets(HISTORY, (), (2, 3), moment, (), 1, 1), ())
            self.assertEqual(sufficient_sets(HISTORY, (), (2, 3), moment, tuple("abcd"), 2, 2), ((),))

    def test_many_candidates(self):
        history = (tuple((name, None) for name in "abcdefg"),
                   tuple(("look", "cy", name, 1) for name in "abcdefg") + (("pour", "cy", tuple("abcdefg"), 7),))
        found = sufficient_sets(history, (), tuple(range(8)), 0, tuple("abcdefg"), 7, 7)
        self.assertEqual(found, (tuple(range(7)), (7,)))

    def test_errors_in_order(self):
        def call(trusted, candidates, moment, places):
            return sufficient_sets(HISTORY, trusted, candidates, moment, places, 1, 0)
        for found, expected in candidate_errors(call, HISTORY):
            self.assertEqual(found, expected)

    def test_arguments_by_name(self):
        named = {"high": 1, "low": 1, "places": ("b", "c"), "moment": 2, "candidates": (2, 3), "trusted": (),
                 "history": HISTORY}
        self.assertEqual(sufficient_sets(**named), ((2,), (3,)))


if __name__ == "__main__":
    unittest.main()
