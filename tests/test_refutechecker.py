import copy
import random
import unittest

from mixedbags.errors import BagsError, InvalidPaper, NotAReport, PaperError
from mixedbags.refutechecker import lets_refuted
from mixedbags.refutetrees import refute_tree
from tests import oracles, paper_oracles
from tests.support import (
    HISTORY, ODD_VALUES, RING, SEVEN, SIXTY, candidate_errors, changed, gap_cases, outcome, paper_error, random_course,
    reports_in, same, telling_cases,
)

COURSE = (("a", "c"), ("a", "c"), ("a", "d"), ("a", "d"), ("a", "d"))
STILL = (("a", "c"),) * 5
LEAF = (COURSE, ())


def tree_of(size, marked=""):
    """A tree for the looks at a to f of SEVEN, whose courses have as few marks as can be."""
    course = (tuple(sorted(marked)),) * 9
    children = [("abcdef".index(name), tree_of(size - 1, marked + name)) for name in "abcdef" if name not in marked]
    return (course, tuple(children) if size else ())


class RefuteCheckerTest(unittest.TestCase):
    def reason(self, thing, size=0, allowed=(0, 2), candidates=(2, 3), trusted=(), history=HISTORY, moment=2,
               places=("a", "c")):
        """Why the value is refused, by the checker and the oracle, or None."""
        asked = (history, trusted, candidates, moment, places, allowed, size)
        expected = paper_oracles.refute_reason(*asked, thing)
        found = outcome(lets_refuted, *asked, thing)
        right = ("returns", len(paper_oracles.refuting_nodes(thing))) if expected is None else paper_error(*expected)
        self.assertTrue(same(found, right), thing)
        return expected

    def refuses(self, thing, word, at, **named):
        self.assertEqual(self.reason(thing, **named), (word, at), thing)

    def test_example(self):
        self.assertTrue(same(lets_refuted(HISTORY, (), (2, 3), 2, ("a", "c"), (0, 2), 0, LEAF), 1))

    def test_shape(self):
        self.refuses(((), ()), "many", (0, -1))
        for thing in [odd for odd in ODD_VALUES if odd != ((), ())]:
            self.refuses(thing, "shape", -1)
            self.refuses((COURSE, (thing,)), "shape", -1)
            self.refuses((COURSE, ((2, thing),)), "shape", -1)
            self.refuses((COURSE, ((thing, LEAF), (3, None))), "shape", -1)
            self.refuses((COURSE, (), thing), "shape", -1)
            if thing != ():
                self.refuses((COURSE, thing), "shape", -1)
        for thing in ([COURSE, ()], (COURSE, []), (COURSE,), (COURSE, ((2, LEAF, LEAF),)), (COURSE, ([2, LEAF],)),
                      (COURSE, ((True, LEAF),)), (COURSE, ((-1, LEAF),)), (COURSE, ((2, (COURSE, [])),)), COURSE):
            self.refuses(thing, "shape", -1)

    def test_errors_of_the_root(self):
        for course in (None, True, "a", 7, (), list(COURSE), COURSE[:4], (("a",),) * 5, (("c", "a"),) * 5, (("z",),) * 5,
                       COURSE[:4] + (("a",),), (COURSE,), (("a", 1),) * 5):
            word, at = oracles.course_reason(HISTORY, (), course)
            self.refuses((course, ()), word, (0, at))
            self.refuses((course, ((9, LEAF),)), word, (0, at))
        self.refuses((STILL, ()), "number", 0)
        self.refuses((STILL, ((9, LEAF),)), "number", 0)
        self.refuses(LEAF, "report", (0, 2), trusted=(2,))
        self.refuses((COURSE, ((2, LEAF),)), "children", 0)

    def test_a_tree_with_six_children(self):
        asked = {"allowed": (7,), "candidates": tuple(range(6)), "history": SEVEN, "moment": 0, "places": tuple("abcdefg")}
        for size, count in ((0, 1), (1, 7), (2, 37), (3, 157)):
            tree = tree_of(size)
            self.assertEqual(len(paper_oracles.refuting_nodes(tree)), count)
            self.assertIsNone(self.reason(tree, size, **asked))
            for other in range(4):
                if other != size:
                    self.assertEqual(self.reason(tree, other, **asked)[0], "children")
        self.refuses(tree_of(2), "children", 1, size=1, **asked)
        self.refuses(tree_of(2), "children", 2, size=3, **asked)
        self.refuses(tree_of(1), "number", 0, size=1, **{**asked, "allowed": (0, 7)})
        self.refuses(tree_of(1), "number", 1, size=1, **{**asked, "allowed": (1, 7)})
        self.refuses(tree_of(2), "number", 2, size=2, **{**asked, "allowed": (2, 7)})
        self.refuses(tree_of(1), "report", (0, 3), size=1, **{**asked, "trusted": (3,)})
        self.refuses(tree_of(1), "children", 0, size=1, **{**asked, "candidates": tuple(range(5))})
        # The report 7 is one with which all courses without a agree.
        self.assertIsNone(self.reason(tree_of(0), 0, **{**asked, "candidates": tuple(range(8))}))
        self.refuses(tree_of(1), "children", 0, size=1, **{**asked, "candidates": tuple(range(8))})

    def test_children(self):
        asked = {"allowed": (7,), "candidates": tuple(range(6)), "history": SEVEN, "moment": 0, "places": tuple("abcdefg"),
                 "size": 2}
        course, children = tree_of(2)
        for at in range(6):
            for row in (children[:at] + children[at + 1:], children[:at + 1] + children[at:], children[at:] + children[:at],
                        children[:at] + ((children[at][0] + 1, children[at][1]),) + children[at + 1:]):
                if row != children:
                    self.refuses((course, row), "children", 0, **asked)
        self.refuses((course, children[::-1]), "children", 0, **asked)
        self.refuses((course, children + ((6, LEAF),)), "children", 0, **asked)
        self.refuses((course, ((SIXTY, LEAF),)), "children", 0, **asked)
        # Child 1 begins at node 7, because child 0 has five children.
        wrong = children[:1] + ((1, (children[1][1][0], ())),) + children[2:]
        self.refuses((course, wrong), "children", 7, **asked)
        wrong = children[:1] + ((1, (children[2][1][0], children[1][1][1])),) + children[2:]
        self.refuses((course, wrong), "report", (7, 1), **asked)
        self.refuses((course, children[:1] + ((1, (None, ())),) + children[2:]), "shape", (7, -1), **asked)
        deep = (children[0][1][0], children[0][1][1][:4] + ((5, ((), ())),))
        self.refuses((course, ((0, deep),) + children[1:]), "many", (6, -1), **asked)

    def test_ways_are_trusted(self):
        ring = {"history": RING, "candidates": (3, 4, 5), "moment": 3, "places": ("a", "c", "e"), "allowed": (0, 3), "size": 1}
        tree = refute_tree(RING, (), (3, 4, 5), 3, ("a", "c", "e"), (0, 3), 1)
        self.assertIsNone(self.reason(tree, **ring))
        for at, (candidate, _) in enumerate(tree[1]):
            wrong = tree[1][:at] + ((candidate, (tree[0], ())),) + tree[1][at + 1:]
            self.refuses((tree[0], wrong), "report", (at + 1, candidate), **ring)

    def test_papers_with_parts_replaced(self):
        chance = random.Random(47)
        seen = {}
        for history, trusted, moment, places in [*telling_cases(2500), *gap_cases(1500)]:
            candidates = tuple(at for at in reports_in(history) if chance.random() < 0.8)[:5]
            allowed = tuple(number for number in range(len(places) + 1) if chance.random() < 0.4)
            size = chance.randint(0, 3)
            tree = refute_tree(history, trusted, candidates, moment, places, allowed, size)
            tree = tree or (random_course(chance.random(), history, ()), ())
            thing = self.replaced(chance, history, trusted, tree)
            before = copy.deepcopy(thing)
            reason = self.reason(thing, size, allowed, candidates, trusted, history, moment, places)
            self.assertTrue(same(thing, before))
            if reason is None:
                self.assertIsNotNone(refute_tree(history, trusted, candidates, moment, places, allowed, size))
            kind = reason and (reason[0], reason[1] in (0, -1) or isinstance(reason[1], tuple) and reason[1][0] == 0)
            seen[kind] = seen.get(kind, 0) + 1
        words = ("number", "children", "report", "event", "shape")
        kinds = {None} | {(word, is_root) for word in words for is_root in (True, False)} - {("number", False)}
        self.assertTrue({kind for kind in seen if seen[kind] > 2} >= kinds, seen)

    def replaced(self, chance, history, trusted, tree):
        course, children = tree
        if children and chance.random() < 0.7:
            at = chance.randrange(len(children))
            child = (children[at][0], self.replaced(chance, history, trusted, children[at][1]))
            return course, children[:at] + (child,) + children[at + 1:]
        way = chance.randrange(5)
        if way == 0:
            return changed(chance, tree, chance.choice((1, 2)))
        if way == 1:
            return random_course(chance.random(), history, chance.choice(((), trusted))), children
        if way == 2:
            return course, chance.choice((children[1:], children[::-1], children + children[:1], children + ((0, tree),)))
        if way == 3:
            return course and course[::-1], children
        return changed(chance, course, 1), children

    def test_errors_in_order(self):
        for thing in (None, LEAF):
            def call(trusted, candidates, moment, places):
                return lets_refuted(HISTORY, trusted, candidates, moment, places, (0, 2), 0, thing)
            for found, expected in candidate_errors(call, HISTORY):
                self.assertEqual(found, expected)

    def test_families_and_names(self):
        for kind in (InvalidPaper, PaperError, BagsError):
            with self.assertRaises(kind):
                lets_refuted(HISTORY, (), (), 2, (), (), 0, None)
        with self.assertRaises(NotAReport):
            lets_refuted(HISTORY, (), (0,), 2, (), (), 0, None)
        named = {"thing": LEAF, "size": 0, "allowed": (0, 2), "places": ("a", "c"), "moment": 2, "candidates": (2, 3),
                 "trusted": (), "history": HISTORY}
        self.assertEqual(lets_refuted(**named), 1)


if __name__ == "__main__":
    unittest.main()
