import random
import unittest

from mixedbags.hindsight import forcing_sets
from mixedbags.numbers import numbers_of
from mixedbags.reportsets import sufficient_sets
from tests.support import (
    CLASHING, EIGHT, EMPTY, HISTORY, QUARREL, RING, SIXTY, candidate_errors, gap_cases, minimal_forcing, reports_in, same,
    subsets, telling_cases, views,
)


class ForcingSetsTest(unittest.TestCase):
    def test_example(self):
        self.assertTrue(same(forcing_sets(HISTORY, (), (2, 3), 2, ("a", "c"), (0, 2)), ((2,), (3,))))

    def compare(self, chance, history, trusted, moment, places):
        """Compare with all subsets. Return the sizes of the sets."""
        seen = views(history, moment, places)
        candidates = tuple(at for at in reports_in(history) if chance.random() < 0.8)
        sizes = []
        for _ in range(4):
            allowed = tuple(number for number in range(len(places) + 2) if chance.random() < 0.4)
            found = forcing_sets(history, trusted, candidates, moment, places, allowed)
            self.assertTrue(same(found, minimal_forcing(seen, trusted, candidates, allowed)))
            sizes += [len(chosen) for chosen in found] or [None]
        return sizes

    def test_against_all_subsets(self):
        chance = random.Random(40)
        sizes = set()
        for asked in [*telling_cases(400), *gap_cases(200)]:
            sizes |= set(self.compare(chance, *asked))
        self.assertTrue(sizes >= {None, 0, 1, 2, 3})

    def test_a_set_forces_exactly_if_its_numbers_are_allowed(self):
        for history, trusted, moment, places in gap_cases(100):
            reports = reports_in(history)
            found = forcing_sets(history, trusted, reports, moment, places, (0, 2))
            for chosen in subsets(reports):
                agreed = tuple(sorted(set(trusted) | set(chosen)))
                forces = set(numbers_of(history, agreed, moment, places)) <= {0, 2}
                self.assertIs(any(set(part) <= set(chosen) for part in found), forces)

    def test_exact_numbers_count_not_only_limits(self):
        for allowed, expected in (((0, 2), ((2,), (3,))), ((0, 1, 2), ((),)), ((0,), ()), ((2,), ()), ((1,), ()), ((), ())):
            self.assertEqual(forcing_sets(HISTORY, (), (2, 3), 2, ("a", "c"), allowed), expected)
        self.assertEqual(sufficient_sets(HISTORY, (), (2, 3), 2, ("a", "c"), 0, 2), ((),))
        found = forcing_sets(RING, (), (3, 4, 5), 3, ("a", "c", "e"), (0, 3))
        self.assertEqual(found, ((3, 4), (3, 5), (4, 5)))

    def test_allowed_numbers(self):
        for allowed in ((0, 1, 2, 3, SIXTY), tuple(range(9)), (0, 1, 2)):
            self.assertEqual(forcing_sets(HISTORY, (), (2, 3), 2, ("a", "c"), allowed), ((),))
        self.assertEqual(forcing_sets(HISTORY, (), (2, 3), 2, ("a", "c"), (SIXTY,)), ())
        self.assertEqual(forcing_sets(HISTORY, (), (2, 3), 2, (), (0,)), ((),))
        self.assertEqual(forcing_sets(HISTORY, (), (2, 3), 2, (), (1,)), ())

    def test_without_a_course_every_set_forces(self):
        for allowed in ((), (0,), (0, 1)):
            self.assertEqual(forcing_sets(EMPTY, (1,), (1,), 0, ("a",), allowed), ((),))
            self.assertEqual(forcing_sets(EMPTY, (1,), (), 2, ("a",), allowed), ((),))
            self.assertEqual(forcing_sets(CLASHING, (0,), (2,), 3, ("b",), allowed), ((),))
        self.assertEqual(forcing_sets(EMPTY, (), (1,), 0, ("a",), ()), ((1,),))
        self.assertEqual(forcing_sets(QUARREL, (), (0, 1, 2, 3), 0, ("a",), ()), ((0, 1), (2,)))

    def test_candidates(self):
        self.assertEqual(forcing_sets(HISTORY, (2,), (2, 3), 2, ("a", "c"), (0, 2)), ((),))
        self.assertEqual(forcing_sets(HISTORY, (2,), (), 2, ("a", "c"), (0, 2)), ((),))
        self.assertEqual(forcing_sets(HISTORY, (), (), 2, ("a", "c"), (0, 2)), ())
        every = tuple(range(8))
        self.assertEqual(forcing_sets(EIGHT, (), every, 0, ("a",), (1,)), tuple((at,) for at in every))
        self.assertEqual(forcing_sets(EIGHT, (5,), every, 0, ("a",), (1,)), ((),))
        self.assertEqual(forcing_sets(EIGHT, (), every, 0, ("a",), (0,)), ())

    def test_trusted_reports_are_in_no_set(self):
        for history, trusted, moment, places in telling_cases(200):
            for chosen in forcing_sets(history, trusted, reports_in(history), moment, places, (1,)):
                self.assertFalse(set(chosen) & set(trusted))

    def test_what_forced_still_forces(self):
        for history, trusted, moment, places in telling_cases(120):
            reports = reports_in(history)
            found = forcing_sets(history, (), reports, moment, places, (1,))
            for allowed, agreed in (((1, 2), ()), ((1,), trusted)):
                wider = forcing_sets(history, agreed, reports, moment, places, allowed)
                for chosen in found:
                    self.assertTrue(any(set(part) <= set(chosen) for part in wider))

    def test_errors_in_order(self):
        def call(trusted, candidates, moment, places):
            return forcing_sets(HISTORY, trusted, candidates, moment, places, ())
        for found, expected in candidate_errors(call, HISTORY):
            self.assertEqual(found, expected)

    def test_arguments_by_name(self):
        named = {"allowed": (0, 2), "places": ("a", "c"), "moment": 2, "candidates": (2, 3), "trusted": (),
                 "history": HISTORY}
        self.assertEqual(forcing_sets(**named), ((2,), (3,)))


if __name__ == "__main__":
    unittest.main()
