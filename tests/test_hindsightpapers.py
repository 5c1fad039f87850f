import random
import unittest

from mixedbags.hindsight import forcing_sets
from mixedbags.hindsightchecker import lets_hindsight
from mixedbags.hindsightpapers import hindsight_paper
from tests import paper_oracles
from tests.support import (
    CLASHING, EIGHT, EMPTY, HISTORY, QUARREL, RING, SEVEN, SIXTY, candidate_errors, gap_cases, random_history,
    random_question, reports_in, telling_cases,
)


class HindsightPapersTest(unittest.TestCase):
    def accepted(self, history, trusted, candidates, moment, places, allowed):
        """The reports of a paper that the checker and the oracle accept, or None."""
        asked = (history, trusted, candidates, moment, places, allowed)
        paper = hindsight_paper(*asked)
        sets = forcing_sets(*asked)
        if paper is None:
            self.assertEqual(sets, ())
            return None
        self.assertIn(paper[0], sets)
        self.assertIsNone(paper_oracles.hindsight_reason(*asked, paper))
        self.assertEqual(lets_hindsight(*asked, paper), paper[0])
        return paper[0]

    def test_example(self):
        self.assertIsNone(hindsight_paper(HISTORY, (), (2, 3), 2, ("a", "c"), (2,)))

    def test_papers_are_accepted(self):
        chance = random.Random(41)
        sizes = set()
        for history, trusted, moment, places in [*telling_cases(350), *gap_cases(250)]:
            candidates = tuple(at for at in reports_in(history) if chance.random() < 0.8)
            for _ in range(3):
                allowed = tuple(number for number in range(len(places) + 2) if chance.random() < 0.4)
                found = self.accepted(history, trusted, candidates, moment, places, allowed)
                sizes.add(found if found is None else len(found))
        self.assertTrue(sizes >= {None, 0, 1, 2, 3})

    def test_gaps(self):
        self.assertEqual(self.accepted(HISTORY, (), (2, 3), 2, ("a", "c"), (0, 2)), (2,))
        self.assertEqual(len(self.accepted(RING, (), (3, 4, 5), 3, ("a", "c", "e"), (0, 3))), 2)
        self.assertEqual(self.accepted(RING, (3,), (3, 4), 3, ("a", "c", "e"), (0, 3)), (4,))

    def test_seven_reports(self):
        names = tuple("abcdefg")
        self.assertEqual(self.accepted(SEVEN, (), tuple(range(7)), 0, names, (7,)), tuple(range(7)))
        # The reports 0 and 7 contradict each other, so both together force anything.
        self.assertEqual(self.accepted(SEVEN, (), tuple(range(8)), 0, names, (7,)), (0, 7))

    def test_allowed_numbers(self):
        for allowed, expected in (((), None), ((0, 1, 2), ()), ((0, 1, 2, SIXTY), ()), ((1,), None), ((SIXTY,), None)):
            self.assertEqual(self.accepted(HISTORY, (), (2, 3), 2, ("a", "c"), allowed), expected)
        self.assertEqual(self.accepted(HISTORY, (), (), 2, (), (0,)), ())
        self.assertIsNone(self.accepted(HISTORY, (2, 3), (2, 3), 2, (), (1, 2)))

    def test_without_a_course(self):
        for allowed in ((), (1,), (0, 1)):
            self.assertEqual(self.accepted(EMPTY, (1,), (1,), 2, ("a",), allowed), ())
            self.assertEqual(self.accepted(CLASHING, (0,), (), 3, ("b",), allowed), ())
        self.assertEqual(self.accepted(EMPTY, (), (1,), 0, ("a",), ()), (1,))
        self.assertEqual(self.accepted(QUARREL, (), (0, 1, 3), 0, ("a",), ()), (0, 1))
        self.assertEqual(hindsight_paper(CLASHING, (0,), (), 3, (), ()), ((), (("clash", ("a", -1, 1)),), ()))

    def test_eight_candidates(self):
        self.assertEqual(len(self.accepted(EIGHT, (), tuple(range(8)), 0, ("a", "b"), (1,))), 1)
        chance = random.Random(42)
        for seed in range(25):
            history = random_history(seed, 7, 14, 0.8, ("mix", "look", "pour"))
            moment, places = random_question(chance, history)
            self.accepted(history, (), reports_in(history)[:8], moment, places, (1, 2))

    def test_errors_in_order(self):
        def call(trusted, candidates, moment, places):
            return hindsight_paper(HISTORY, trusted, candidates, moment, places, ())
        for found, expected in candidate_errors(call, HISTORY):
            self.assertEqual(found, expected)

    def test_arguments_by_name(self):
        named = {"allowed": (0, 2), "places": ("a", "c"), "moment": 2, "candidates": (2, 3), "trusted": (),
                 "history": HISTORY}
        self.assertEqual(lets_hindsight(thing=hindsight_paper(**named), **named), (2,))


if __name__ == "__main__":
    unittest.main()
