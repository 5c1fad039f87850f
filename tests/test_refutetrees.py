import random
import unittest

from mixedbags.hindsight import forcing_sets
from mixedbags.refutechecker import lets_refuted
from mixedbags.refutetrees import fewest_forcing, refute_tree
from tests import paper_oracles
from tests.support import (
    CLASHING, EIGHT, EMPTY, HISTORY, QUARREL, RING, SEVEN, SIXTY, candidate_errors, gap_cases, minimal_forcing,
    random_history, random_question, reports_in, same, telling_cases, views,
)

NAMES = tuple("abcdefg")


class FewestForcingTest(unittest.TestCase):
    def test_example(self):
        self.assertTrue(same(fewest_forcing(HISTORY, (), (2, 3), 2, ("a", "c"), (0, 2)), 1))

    def test_against_all_subsets(self):
        chance = random.Random(44)
        seen = set()
        for history, trusted, moment, places in [*telling_cases(400), *gap_cases(200)]:
            shown = views(history, moment, places)
            candidates = tuple(at for at in reports_in(history) if chance.random() < 0.8)
            for _ in range(3):
                allowed = tuple(number for number in range(len(places) + 2) if chance.random() < 0.4)
                sets = minimal_forcing(shown, trusted, candidates, allowed)
                expected = min(map(len, sets), default=None)
                found = fewest_forcing(history, trusted, candidates, moment, places, allowed)
                self.assertTrue(same(found, expected))
                seen.add(found)
        self.assertTrue(seen >= {None, 0, 1, 2, 3})

    def test_seven_reports(self):
        self.assertEqual(fewest_forcing(SEVEN, (), tuple(range(7)), 0, NAMES, (7,)), 7)
        self.assertEqual(fewest_forcing(SEVEN, (3,), tuple(range(7)), 0, NAMES, (7,)), 6)
        self.assertEqual(fewest_forcing(SEVEN, (), tuple(range(8)), 0, NAMES, (7,)), 2)
        self.assertIsNone(fewest_forcing(SEVEN, (), tuple(range(6)), 0, NAMES, (7,)))

    def test_edges(self):
        self.assertEqual(fewest_forcing(EIGHT, (), tuple(range(8)), 0, ("a",), (1,)), 1)
        self.assertIsNone(fewest_forcing(HISTORY, (), (), 2, ("a", "c"), (0, 2)))
        self.assertIsNone(fewest_forcing(HISTORY, (), (2, 3), 2, ("a", "c"), ()))
        self.assertEqual(fewest_forcing(HISTORY, (), (2, 3), 2, ("a", "c"), (0, 1, 2, SIXTY)), 0)
        self.assertEqual(fewest_forcing(EMPTY, (1,), (), 0, ("a",), ()), 0)
        self.assertEqual(fewest_forcing(CLASHING, (0,), (2,), 0, ("a",), ()), 0)
        self.assertEqual(fewest_forcing(QUARREL, (), (0, 1), 0, ("a",), ()), 2)

    def test_errors_in_order(self):
        def call(trusted, candidates, moment, places):
            return fewest_forcing(HISTORY, trusted, candidates, moment, places, ())
        for found, expected in candidate_errors(call, HISTORY):
            self.assertEqual(found, expected)

    def test_arguments_by_name(self):
        named = {"allowed": (0, 2), "places": ("a", "c"), "moment": 2, "candidates": (2, 3), "trusted": (),
                 "history": HISTORY}
        self.assertEqual(fewest_forcing(**named), 1)


class RefuteTreeTest(unittest.TestCase):
    def nodes(self, *asked):
        """How many nodes the tree has, which the checker and the oracle accept, or None."""
        tree = refute_tree(*asked)
        if tree is None:
            return None
        self.assertIsNone(paper_oracles.refute_reason(*asked, tree))
        count = len(paper_oracles.refuting_nodes(tree))
        self.assertTrue(same(lets_refuted(*asked, tree), count))
        return count

    def test_example(self):
        self.assertIsNone(refute_tree(HISTORY, (), (2, 3), 2, ("a", "c"), (0, 2), 1))

    def test_a_tree_exists_exactly_if_no_small_set_forces(self):
        chance = random.Random(45)
        seen = {}
        for history, trusted, moment, places in [*telling_cases(400), *gap_cases(200)]:
            shown = views(history, moment, places)
            candidates = tuple(at for at in reports_in(history) if chance.random() < 0.8)[:4]
            allowed = tuple(number for number in range(len(places) + 2) if chance.random() < 0.4)
            sets = minimal_forcing(shown, trusted, candidates, allowed)
            for size in range(4):
                small = [chosen for chosen in sets if len(chosen) <= size]
                found = self.nodes(history, trusted, candidates, moment, places, allowed, size)
                self.assertIs(found is None, len(small) > 0)
                seen[size, found is None] = seen.get((size, found is None), 0) + 1
        self.assertEqual(len([key for key in seen if seen[key] > 20]), 8)

    def test_sizes(self):
        asked = (HISTORY, (), (2, 3), 2, ("a", "c"))
        self.assertEqual(self.nodes(*asked, (0, 2), 0), 1)
        self.assertEqual([self.nodes(*asked, (0, 1, 2), size) for size in range(4)], [None] * 4)
        self.assertEqual([self.nodes(*asked[:2], (), *asked[3:], (0, 2), size) for size in range(4)], [1] * 4)
        ring = (RING, (), (3, 4, 5), 3, ("a", "c", "e"))
        found = [self.nodes(*ring, (0, 3), size) for size in range(4)]
        self.assertEqual([many is None for many in found], [False, False, True, True])
        self.assertEqual([refute_tree(EMPTY, (1,), (1,), 0, ("a",), (), size) for size in range(4)], [None] * 4)
        self.assertIsNone(refute_tree(CLASHING, (0,), (2,), 0, ("a",), (), 0))

    def test_a_tree_with_many_children(self):
        # Each course leaves out at least one of the looks, and as long as some are left out, no set forces.
        candidates = tuple(range(7))
        for size in range(4):
            self.assertIsNotNone(self.nodes(SEVEN, (), candidates, 0, NAMES, (7,), size))
        contrary = (SEVEN[0], tuple(("look", "cy", name, 1) for name in NAMES[:6]))
        for size in range(4):
            # Only a course without a mark has the number 0, and it agrees with none of the six looks.
            found = self.nodes(contrary, (), tuple(range(6)), 0, NAMES, tuple(range(1, 8)), size)
            self.assertEqual(found, 1 if size == 0 else None)
        self.assertEqual(fewest_forcing(contrary, (), tuple(range(6)), 0, NAMES, tuple(range(1, 8))), 1)

    def test_eight_candidates(self):
        chance = random.Random(46)
        most = 0
        for seed in range(25):
            history = random_history(seed, 7, 14, 0.8, ("mix", "look", "pour"))
            moment, places = random_question(chance, history)
            asked = (history, (), reports_in(history)[:8], moment, places, (1, 2))
            fewest = fewest_forcing(*asked)
            self.assertEqual(fewest, min(map(len, forcing_sets(*asked)), default=None))
            for size in range(4):
                found = self.nodes(*asked, size)
                self.assertIs(found is None, fewest is not None and fewest <= size)
                most = max(most, found or 0)
        self.assertGreater(most, 20)

    def test_errors_in_order(self):
        for size in (0, 3):
            def call(trusted, candidates, moment, places):
                return refute_tree(HISTORY, trusted, candidates, moment, places, (), size)
            for found, expected in candidate_errors(call, HISTORY):
                self.assertEqual(found, expected)

    def test_arguments_by_name(self):
        named = {"size": 0, "allowed": (0, 2), "places": ("a", "c"), "moment": 2, "candidates": (2, 3), "trusted": (),
                 "history": HISTORY}
        self.assertEqual(lets_refuted(thing=refute_tree(**named), **named), 1)


if __name__ == "__main__":
    unittest.main()
