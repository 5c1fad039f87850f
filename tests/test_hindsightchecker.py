import copy
import random
import unittest

from mixedbags.errors import BagsError, InvalidPaper, NotAReport, PaperError
from mixedbags.gappapers import number_paper
from mixedbags.hindsightchecker import lets_hindsight
from mixedbags.hindsightpapers import hindsight_paper
from tests import oracles, paper_oracles
from tests.support import (
    HISTORY, ODD_VALUES, QUARREL, SIXTY, candidate_errors, changed, gap_cases, outcome, paper_error, random_course,
    random_level_prices, reports_in, same, telling_cases,
)

P = ((0, 0), (1, 1), (0, 0), (1, 0))
Q = ((-1, -1), (0, 0), (-1, 0), (0, 0))
TREE = ("fix", "a", ("above", Q), ("below", Q))
COURSE = (("a", "c"), ("a", "c"), ("a", "d"), ("a", "d"), ("a", "d"))
STILL = (("a", "c"),) * 5
PAPER = ((2,), (TREE,), (COURSE,))


class HindsightCheckerTest(unittest.TestCase):
    def reason(self, thing, allowed=(0, 2), candidates=(2, 3), trusted=(), history=HISTORY, moment=2, places=("a", "c")):
        """Why the value is refused, by the checker and the oracle, or None."""
        asked = (history, trusted, candidates, moment, places, allowed)
        expected = paper_oracles.hindsight_reason(*asked, thing)
        found = outcome(lets_hindsight, *asked, thing)
        self.assertEqual(found, ("returns", thing[0]) if expected is None else paper_error(*expected), thing)
        return expected

    def refuses(self, thing, word, at, **named):
        self.assertEqual(self.reason(thing, **named), (word, at), thing)

    def test_example(self):
        self.assertTrue(same(lets_hindsight(HISTORY, (), (2, 3), 2, ("a", "c"), (0, 2), PAPER), (2,)))

    def test_shape(self):
        for thing in ODD_VALUES:
            self.refuses(thing, "shape", -1)
            self.refuses(((2,), (TREE, thing), (COURSE,)), "shape", -1)
            for at in (0, 1):
                part = PAPER[:at] + (thing,) + PAPER[at + 1:]
                expected = paper_oracles.hindsight_reason(HISTORY, (), (2, 3), 2, ("a", "c"), (0, 2), part)
                self.assertEqual(self.reason(part), expected)
            if not isinstance(thing, tuple):
                self.refuses(PAPER[:2] + (thing,), "shape", -1)
        for thing in (PAPER[:2], PAPER + ((),), list(PAPER), ([2], *PAPER[1:]), ((True,), *PAPER[1:]), ((-1,), *PAPER[1:]),
                      ((2,), [TREE], (COURSE,)), ((2,), TREE, (COURSE,)), ((2,), (TREE[:3],), (COURSE,)), ((), None, ()),
                      ((2,), (TREE,), [COURSE]), ((9, 1), (("look", Q),), ()), ((2,), (("fix", "a", Q, Q),), (COURSE,))):
            self.refuses(thing, "shape", -1)

    def test_reports(self):
        for reports in ((0,), (4,), (3, 2), (2, 2), (2, 3, 3), (SIXTY,), (2, 4)):
            self.refuses((reports, (), ()), "reports", -1)
        self.refuses(((3,), (), ()), "reports", -1, candidates=(2,))
        self.refuses(((3,), (), ()), "trees", -1, candidates=(2, 3))

    def test_number_of_trees(self):
        for trees in ((), (TREE, TREE), (TREE,) * 3):
            self.refuses(((2,), trees, ()), "trees", -1)
        self.refuses(((2,), (TREE,), (COURSE,)), "trees", -1, allowed=(0, 1, 2))
        self.refuses(((2,), (TREE,), (COURSE,)), "trees", -1, allowed=(2,))
        self.assertIsNone(self.reason(((), (), ()), allowed=(0, 1, 2, 9)))
        self.assertIsNone(self.reason(((), (), ()), allowed=(0,), places=()))

    def test_errors_of_trees(self):
        for tree, word, at in ((("above", Q), "bound", 0), (("fix", "h", TREE, TREE), "fix", 0), (("above", P[:3]), "prices", 0),
                               (("fix", "a", ("above", Q), ("above", Q)), "bound", 2), (("clash", None), "clash", 0),
                               (("fix", "a", ("above", Q), ("fix", "a", TREE, TREE)), "fix", 2),
                               (("fix", "b", TREE, ("fix", "c", ("above", None), TREE)), "prices", 5)):
            self.refuses(((2,), (tree,), ()), word, (0, at))
        # All trees are looked at before the courses are counted, and each one before the next.
        trees = tuple(number_paper(HISTORY, (2,), 2, tuple("abcd"), number)[1] for number in (0, 1, 3, 4))
        asked = {"allowed": (2,), "places": tuple("abcd"), "candidates": (2,)}
        self.refuses(((2,), trees, ()), "courses", -1, **asked)
        for at in range(4):
            wrong = trees[:at] + (("above", None),) + trees[at + 1:]
            self.refuses(((2,), wrong, ()), "prices", (at, 0), **asked)
            self.refuses(((2,), wrong[:at + 1] + (("clash", 0),) * (3 - at), ()), "prices", (at, 0), **asked)

    def test_trees_hold_with_all_reports_of_the_paper(self):
        self.refuses(((), (TREE,), ()), "bound", (0, 1))
        self.assertIsNone(self.reason(((), (TREE,), ()), trusted=(2,)))
        self.refuses(((3,), (TREE,), (COURSE,)), "bound", (0, 1))

    def test_number_of_courses(self):
        for courses in ((), (COURSE, COURSE), (None, None)):
            self.refuses(((2,), (TREE,), courses), "courses", -1)
        self.refuses(((), (TREE,), (COURSE,)), "courses", -1, trusted=(2,))

    def test_errors_of_courses(self):
        for course in (None, True, "a", (), list(COURSE), COURSE[:4], (("a",),) * 5, (("c", "a"),) * 5, (("z",),) * 5,
                       COURSE[:4] + (("a",),), (COURSE,), (("a", 1),) * 5, 10):
            word, at = oracles.course_reason(HISTORY, (), course)
            self.refuses(((2,), (TREE,), (course,)), word, (0, at))
        self.refuses(((2,), (TREE,), (STILL,)), "number", 0)
        self.refuses(((2,), (TREE,), (COURSE,)), "report", (0, 3), trusted=(3,))

    def test_courses_one_after_another(self):
        paper = hindsight_paper(QUARREL, (), (0, 1), 0, ("a",), ())
        self.assertEqual(paper[0], (0, 1))
        one, two = paper[2]
        asked = {"history": QUARREL, "candidates": (0, 1), "moment": 0, "places": ("a",), "allowed": ()}
        self.assertIsNone(self.reason(paper, **asked))
        self.refuses(paper[:2] + ((two, one),), "report", (0, 1), **asked)
        self.refuses(paper[:2] + ((one, one),), "report", (1, 0), **asked)
        self.refuses(paper[:2] + ((one, 7),), "shape", (1, -1), **asked)
        self.refuses(paper[:2] + ((7, one),), "shape", (0, -1), **asked)
        self.refuses((paper[0], paper[1][1:], (one, two)), "number", 1, **{**asked, "allowed": (0,)})
        self.refuses((paper[0], paper[1][1:], (one, 7)), "shape", (1, -1), **{**asked, "allowed": (0,)})
        self.refuses((paper[0], paper[1][1:], (one, 7)), "number", 0, **{**asked, "allowed": (1,)})

    def test_a_trusted_report_is_in_no_paper(self):
        for course in (COURSE, STILL):
            self.assertIn(self.reason(((2,), (TREE,), (course,)), trusted=(2,))[0], ("report", "number"))

    def test_papers_with_parts_replaced(self):
        chance = random.Random(43)
        seen = {}
        for history, trusted, moment, places in [*telling_cases(2500), *gap_cases(1500)]:
            candidates = reports_in(history)[:8]
            allowed = tuple(number for number in range(len(places) + 1) if chance.random() < 0.6)
            paper = hindsight_paper(history, trusted, candidates, moment, places, allowed) or ((), (), ())
            thing = self.replaced(chance, history, trusted, paper)
            before = copy.deepcopy(thing)
            reason = self.reason(thing, allowed, candidates, trusted, history, moment, places)
            self.assertTrue(same(thing, before))
            kind = reason and (reason[0], isinstance(reason[1], tuple))
            seen[kind] = seen.get(kind, 0) + 1
        kinds = {None, ("shape", False), ("shape", True), ("reports", False), ("trees", False), ("courses", False),
                 ("number", False), ("bound", True), ("clash", True), ("prices", True), ("report", True)}
        self.assertTrue({kind for kind in seen if seen[kind] > 2} >= kinds, seen)

    def replaced(self, chance, history, trusted, paper):
        reports, trees, courses = paper
        for _ in range(chance.choice((1, 2))):
            way = chance.randrange(5)
            if way == 0:
                return changed(chance, paper, chance.choice((1, 2)))
            if way == 1:
                reports = tuple(at for at in reports_in(history) if chance.random() < 0.5)
            elif way == 2 and isinstance(trees, tuple) and trees:
                at = chance.randrange(len(trees))
                leaf = chance.choice((("above", random_level_prices(chance, history)), ("below", random_level_prices(chance, history)),
                                      ("clash", chance.choice(oracles.slow_stretches(history)))))
                trees = trees[:at] + (leaf,) + trees[at + 1:]
            elif way == 3:
                trees = changed(chance, trees, 1) if chance.random() < 0.5 else paper[1][::-1]
            else:
                found = random_course(chance.random(), history, chance.choice(((), trusted)))
                courses = tuple(chance.choice((found, course, changed(chance, course, 1))) for course in courses)
        return reports, trees, courses

    def test_errors_in_order(self):
        for thing in (None, PAPER):
            def call(trusted, candidates, moment, places):
                return lets_hindsight(HISTORY, trusted, candidates, moment, places, (0, 2), thing)
            for found, expected in candidate_errors(call, HISTORY):
                self.assertEqual(found, expected)

    def test_families_and_names(self):
        for kind in (InvalidPaper, PaperError, BagsError):
            with self.assertRaises(kind):
                lets_hindsight(HISTORY, (), (), 2, (), (), None)
        with self.assertRaises(NotAReport):
            lets_hindsight(HISTORY, (), (0,), 2, (), (), None)
        named = {"thing": PAPER, "allowed": (0, 2), "places": ("a", "c"), "moment": 2, "candidates": (2, 3),
                 "trusted": (), "history": HISTORY}
        self.assertEqual(lets_hindsight(**named), (2,))


if __name__ == "__main__":
    unittest.main()
