import random
import unittest

from mixedbags.rangechecker import lets_range
from mixedbags.rangepapers import range_paper
from tests import oracles
from tests.support import (
    HISTORY, cases, possible_masks, question_errors, random_history, random_question, random_trusted, range_at,
    reports_in,
)


class RangePapersTest(unittest.TestCase):
    def test_example(self):
        self.assertEqual(range_paper(HISTORY, (2,), 2, ("a", "c"))[0], "range")

    def compare(self, chance, history, trusted):
        possible = possible_masks(history, trusted)
        marks = [oracles.slow_marks(history, trusted, s) for s in oracles.slow_stretches(history)]
        forms = []
        for _ in range(4):
            moment, places = random_question(chance, history)
            paper = range_paper(history, trusted, moment, places)
            found = range_at(history, possible[moment], places)
            self.assertIsNone(oracles.range_reason(history, trusted, moment, places, paper))
            self.assertEqual(lets_range(history, trusted, moment, places, paper), found)
            form = "clash" if () in marks else "none" if found is None else "range"
            self.assertEqual(paper[0], form)
            forms.append(form)
        return forms

    def test_papers_are_accepted_with_exactly_the_range(self):
        chance = random.Random(18)
        forms = []
        for history, trusted in cases(200):
            forms += self.compare(chance, history, trusted)
        for seed in range(60):
            history = random_history(seed, 1 + seed % 5, seed % 9)
            forms += self.compare(chance, history, ()) + self.compare(chance, history, reports_in(history))
        self.assertEqual(set(forms), {"range", "none", "clash"})

    def test_large_histories(self):
        chance = random.Random(19)
        for seed in range(60):
            history = random_history(seed, 7, 14)
            trusted = random_trusted(seed, history)
            moment, places = random_question(chance, history)
            paper = range_paper(history, trusted, moment, places)
            self.assertIsNone(oracles.range_reason(history, trusted, moment, places, paper))
            lets_range(history, trusted, moment, places, paper)

    def test_without_events(self):
        history = ((("a", 1), ("b", None)), ())
        self.assertEqual(range_paper(history, (), 0, ("a", "b")), ("range", (("a",),), (), (("a", "b"),), ()))

    def test_errors_in_order(self):
        for found, expected in question_errors(lambda t, m, p: range_paper(HISTORY, t, m, p), HISTORY):
            self.assertEqual(found, expected)

    def test_arguments_by_name(self):
        paper = range_paper(places=("a", "c"), moment=2, trusted=(2, 3), history=HISTORY)
        self.assertEqual(lets_range(HISTORY, (2, 3), 2, ("a", "c"), paper), (0, 2))


if __name__ == "__main__":
    unittest.main()
