import random
import unittest

from mixedbags.gapchecker import lets_number
from mixedbags.gappapers import number_paper
from mixedbags.numbers import numbers_of
from tests import paper_oracles
from tests.support import (
    CLASHING, EMPTY, HISTORY, RING, cases, gap_cases, numbers_at, possible_masks, question_errors, random_history,
    random_question, random_trusted, reports_in, telling_cases,
)


def most_fixes(tree):
    return 1 + max(most_fixes(tree[2]), most_fixes(tree[3])) if tree[0] == "fix" else 0


class NumberPapersTest(unittest.TestCase):
    def kind(self, history, trusted, moment, places, number):
        """The kind of a paper that the checker and the oracle accept."""
        paper = number_paper(history, trusted, moment, places, number)
        self.assertIsNone(paper_oracles.number_reason(history, trusted, moment, places, number, paper))
        self.assertEqual(lets_number(history, trusted, moment, places, number, paper), paper[0])
        if paper[0] == "gap":
            self.assertLessEqual(most_fixes(paper[1]), len(history[0]))
        return paper[0]

    def compare(self, history, trusted, moment, places):
        found = numbers_at(history, possible_masks(history, trusted)[moment], places)
        for number in (*range(len(places) + 2), 10 ** 20):
            expected = "occurs" if number in found else "gap"
            self.assertEqual(self.kind(history, trusted, moment, places, number), expected)

    def test_example(self):
        self.assertEqual(number_paper(HISTORY, (2, 3), 2, ("a", "c"), 1)[0], "gap")

    def test_against_the_search(self):
        chance = random.Random(37)
        for history, trusted in cases(150, most_events=9):
            for agreed in (trusted, (), reports_in(history)):
                self.compare(history, agreed, *random_question(chance, history))
        for history, trusted, moment, places in telling_cases(200):
            self.compare(history, trusted, moment, places)

    def test_gaps(self):
        for history, trusted, moment, places in gap_cases(250):
            self.compare(history, trusted, moment, places)

    def test_rings(self):
        self.compare(HISTORY, (2, 3), 2, ("a", "c"))
        for trusted in ((3, 4, 5), (3, 4), (3,), ()):
            self.compare(RING, trusted, 3, ("a", "c", "e"))
            self.compare(RING, trusted, 3, tuple("abcdef"))
        kind, tree = number_paper(RING, (3, 4, 5), 3, ("a", "c", "e"), 2)
        self.assertEqual((kind, tree[0]), ("gap", "fix"))

    def test_a_mix_and_a_pour_of_four_places(self):
        names = tuple("abcd")
        start = tuple(zip(names, (1, 1, 0, None)))
        history = (start, (("mix", "ann", names), ("pour", "cy", names, 2), ("look", "cy", "a", 1)))
        for trusted in ((), (1,), (1, 2)):
            for moment in range(4):
                for places in (("a", "b"), names):
                    self.compare(history, trusted, moment, places)

    def test_several_fixes_on_one_way(self):
        # At moment 2 the places a and c are equal, and so are d and f.
        start = tuple(zip("abcdefg", (1, 0, None, 1, 0, None, None)))
        events = (("mix", "ann", ("a", "b")), ("mix", "ann", ("d", "e")), ("pour", "cy", ("b", "c"), 1),
                  ("pour", "cy", ("e", "f"), 1))
        self.compare((start, events), (2, 3), 2, tuple("acdf"))
        self.compare((start, events), (2, 3), 2, tuple("acdfg"))
        self.assertEqual(numbers_of((start, events), (2, 3), 2, tuple("acdf")), (0, 2, 4))
        for number in (1, 3):
            kind, tree = number_paper((start, events), (2, 3), 2, tuple("acdf"), number)
            self.assertEqual(kind, "gap")
            self.assertGreaterEqual(most_fixes(tree), 2)

    def test_without_a_course(self):
        for number in (0, 1, 2, 3, 7, 10 ** 20, 10 ** 60 - 1):
            for moment in range(3):
                for places in ((), ("a",), ("a", "b")):
                    self.assertEqual(self.kind(EMPTY, (1,), moment, places, number), "gap")
                    self.assertEqual(self.kind(CLASHING, (0,), moment, places, number), "gap")
        self.assertEqual(number_paper(CLASHING, (0,), 3, ("b",), 1), ("gap", ("clash", ("a", -1, 1))))

    def test_great_numbers(self):
        for number in (5, 10 ** 20, 10 ** 60 - 1):
            for places in ((), ("a",), tuple("abcd")):
                self.assertEqual(self.kind(HISTORY, (2, 3), 2, places, number), "gap")

    def test_what_is_excluded_remains_excluded(self):
        for history, trusted, moment, places in telling_cases(200):
            more = reports_in(history)
            for number in range(len(places) + 1):
                kind, tree = number_paper(history, trusted, moment, places, number)
                if kind == "gap":
                    self.assertEqual(self.kind(history, more, moment, places, number), "gap")
                    # The same clashes and prices hold, but where bounds exist no longer, others are needed.
                    reason = paper_oracles.number_reason(history, more, moment, places, number, (kind, tree))
                    self.assertIn(reason and reason[0], (None, "bound"))

    def test_large_histories(self):
        chance = random.Random(38)
        for seed in range(40):
            history = random_history(seed, 7, 14)
            trusted = random_trusted(seed, history)
            moment, places = random_question(chance, history)
            found = numbers_of(history, trusted, moment, places)
            for number in range(len(places) + 2):
                expected = "occurs" if number in found else "gap"
                self.assertEqual(self.kind(history, trusted, moment, places, number), expected)

    def test_errors_in_order(self):
        for found, expected in question_errors(lambda t, m, p: number_paper(HISTORY, t, m, p, 1), HISTORY):
            self.assertEqual(found, expected)

    def test_arguments_by_name(self):
        named = {"number": 2, "places": ("a", "c"), "moment": 2, "trusted": (2, 3), "history": HISTORY}
        self.assertEqual(number_paper(**named)[0], "occurs")


if __name__ == "__main__":
    unittest.main()
