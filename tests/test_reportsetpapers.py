import random
import unittest

from mixedbags.reportsetchecker import lets_report_set
from mixedbags.reportsetpapers import report_set_paper
from mixedbags.reportsets import sufficient_sets
from tests import paper_oracles
from tests.support import (
    CLASHING, EIGHT, HISTORY, QUARREL, SIXTY, candidate_errors, telling_cases, random_history, random_question, reports_in,
)


class ReportSetPapersTest(unittest.TestCase):
    def test_example(self):
        paper = report_set_paper(HISTORY, (), (2,), 2, ("b", "c"), 1, 1)
        self.assertEqual([paper[0], paper[1][0], len(paper[2])], [(2,), "within", 1])

    def accepted(self, history, trusted, candidates, moment, places, low, high):
        """The form of the reason of a paper that the checker and the oracle accept, or None."""
        asked = (history, trusted, candidates, moment, places, low, high)
        paper = report_set_paper(*asked)
        sets = sufficient_sets(*asked)
        if paper is None:
            self.assertEqual(sets, ())
            return None
        self.assertIn(paper[0], sets)
        self.assertIsNone(paper_oracles.set_reason(*asked, paper))
        self.assertEqual(lets_report_set(*asked, paper), paper[0])
        return paper[1][0]

    def test_papers_are_accepted(self):
        chance = random.Random(32)
        forms = set()
        for history, trusted, moment, places in telling_cases(400):
            candidates = tuple(at for at in reports_in(history) if chance.random() < 0.8)
            for low, high in ((0, 0), (1, 1), (1, 2), (2, 1)):
                forms.add(self.accepted(history, trusted, candidates, moment, places, low, high))
        self.assertEqual(forms, {None, "within", "none", "clash"})

    def test_large_histories(self):
        chance = random.Random(33)
        for seed in range(30):
            history = random_history(seed, 7, 14)
            moment, places = random_question(chance, history)
            candidates = reports_in(history)[:8]
            self.accepted(history, (), candidates, moment, places, len(places) // 2, len(places))

    def test_forms(self):
        self.assertEqual(self.accepted(QUARREL, (), (0, 1), 0, ("a",), 5, 5), "clash")
        self.assertEqual(self.accepted(QUARREL, (), (1, 2), 0, ("a",), 5, 5), "none")
        self.assertEqual(self.accepted(QUARREL, (), (1, 2), 0, ("a",), 1, 1), "within")
        self.assertEqual(self.accepted(CLASHING, (0,), (2,), 0, ("a",), 5, 5), "clash")
        self.assertEqual(self.accepted(EIGHT, (), tuple(range(8)), 0, ("a",), 1, SIXTY), "within")

    def test_without_a_sufficient_set(self):
        for low, high in ((1, 1), (SIXTY, -SIXTY), (-3, -1), (3, SIXTY)):
            self.assertIsNone(report_set_paper(HISTORY, (), (), 2, ("b", "c"), low, high))
        self.assertIsNone(report_set_paper(HISTORY, (2, 3), (2, 3), 2, ("b", "c"), 2, 2))

    def test_the_empty_set(self):
        chosen, reason, courses = report_set_paper(HISTORY, (), (2, 3), 2, ("b", "c"), -SIXTY, SIXTY)
        self.assertEqual((chosen, reason[0], courses), ((), "within", ()))

    def test_errors_in_order(self):
        def call(trusted, candidates, moment, places):
            return report_set_paper(HISTORY, trusted, candidates, moment, places, 1, 0)
        for found, expected in candidate_errors(call, HISTORY):
            self.assertEqual(found, expected)

    def test_arguments_by_name(self):
        named = {"high": 1, "low": 1, "places": ("b", "c"), "moment": 2, "candidates": (2, 3), "trusted": (),
                 "history": HISTORY}
        self.assertEqual(lets_report_set(thing=report_set_paper(**named), **named), (2,))


if __name__ == "__main__":
    unittest.main()
