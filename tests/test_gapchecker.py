import copy
import random
import unittest

from mixedbags.errors import BagsError, InvalidPaper, MomentOutOfRange, PaperError
from mixedbags.gapchecker import lets_number
from mixedbags.gappapers import number_paper
from tests import oracles, paper_oracles
from tests.support import (
    CLASHING, EMPTY, HISTORY, ODD_VALUES, SIXTY, changed, gap_cases, names_of, outcome, paper_error,
    question_errors, random_course, random_level_prices, same, telling_cases, zero_prices,
)

P = ((0, 0), (1, 1), (0, 0), (1, 0))
Q = ((-1, -1), (0, 0), (-1, 0), (0, 0))
ZERO = ((0, 0), (0, 0), (0, 0), (0, 0))
UNEVEN = ((1, 0), (0, 0), (0, 0), (0, 0))
COURSE = (("a", "c"),) * 5
TREE = ("fix", "a", ("above", P), ("below", P))
NAMES = tuple("abcdefg")
FREE = (tuple((name, None) for name in NAMES), ())


def tree_of(names, leaf):
    """The tree that fixes these places on every way."""
    return ("fix", names[0], tree_of(names[1:], leaf), tree_of(names[1:], leaf)) if names else leaf


class GapCheckerTest(unittest.TestCase):
    def reason(self, thing, trusted=(2, 3), history=HISTORY, moment=2, places=("a", "c"), number=1):
        """Why the value is refused, by the checker and the oracle, or None."""
        expected = paper_oracles.number_reason(history, trusted, moment, places, number, thing)
        found = outcome(lets_number, history, trusted, moment, places, number, thing)
        self.assertEqual(found, ("returns", thing[0]) if expected is None else paper_error(*expected), thing)
        return expected

    def refuses(self, thing, word, at, **named):
        self.assertEqual(self.reason(thing, **named), (word, at), thing)

    def test_examples(self):
        self.assertEqual(lets_number(HISTORY, (2, 3), 2, ("a", "c"), 1, ("gap", TREE)), "gap")
        self.refuses(("gap", ("above", P)), "bound", 0)

    def test_shape(self):
        for thing in ODD_VALUES:
            self.refuses(thing, "shape", -1)
            self.refuses(("gap", thing), "shape", -1)
            for part in (("gap", TREE, thing), (thing, TREE), ("gap", (thing, "a", *TREE[2:])),
                         ("gap", TREE[:3] + (thing,)), ("gap", TREE[:2] + (thing,) + TREE[3:]), ("gap", (thing, P))):
                if part[0] not in ("occurs", "gap") or len(part) != 2 or not paper_oracles.is_tree_shape(part[1]):
                    self.refuses(part, "shape", -1)
        for thing in (["gap", TREE], ("gap",), ("gap", list(TREE)), ("gap", TREE[:3]), ("gap", TREE + (("above", P),)),
                      ("gap", ("fix", "A", *TREE[2:])), ("gap", ("fix", 0, *TREE[2:])), ("gap", ("fix", "a", ["above", P], P)),
                      ("gap", ("fix", "a", ("fix", "b", ("above", P)), ("above", P))), ("gap", ("above",)),
                      ("gap", ("above", P, P)), ("gap", ("fix", "a")), ("gap", ("look", "a", *TREE[2:])),
                      ("occurs",), ("occurs", COURSE, COURSE), ["occurs", COURSE], ("Gap", TREE), ("within", TREE)):
            self.refuses(thing, "shape", -1)

    def test_shape_takes_precedence(self):
        self.refuses(("gap", ("fix", "h", ("above", P), ("beside", P))), "shape", -1)
        self.refuses(("gap", ("fix", "a", ("above", None), ("clash", P, P))), "shape", -1)

    def test_any_values_in_leaves(self):
        for thing in ODD_VALUES:
            for word, expected in (("above", "prices"), ("below", "prices"), ("clash", "clash")):
                self.refuses(("gap", (word, thing)), expected, 0)
                self.refuses(("gap", ("fix", "a", (word, thing), ("below", P))), expected, 1)
                self.refuses(("gap", ("fix", "a", ("above", P), (word, thing))), expected, 2)

    def test_occurs(self):
        for number in (2, 0, 1, 3, 10 ** 20):
            thing = ("occurs", COURSE)
            reason = self.reason(thing, number=number)
            self.assertEqual(reason, None if number == 2 else ("number", -1))
        for course in (COURSE[:4], COURSE + COURSE[:1], list(COURSE), (("c", "a"),) * 5, (("a", "h"),) * 5, (("a",),) * 5,
                       COURSE[:2] + (("b", "c"),) * 3, (("a", "c"), ("a", "c"), ("a", "d"), ("a", "d"), ("a", "d")), None,
                       (("a", "c"), ("b", "c"), ("b", "c"), ("b", "c"), ("b", "c")), True, (COURSE,), ((0,),) * 5):
            expected = oracles.course_reason(HISTORY, (2, 3), course)
            self.assertIsNotNone(expected)
            self.refuses(("occurs", course), *expected)

    def test_fixes(self):
        leaf = ("below", P)
        for place in ("h", "aa", "e"):
            self.refuses(("gap", ("fix", place, leaf, leaf)), "fix", 0)
            self.refuses(("gap", ("fix", "a", ("above", P), ("fix", place, leaf, leaf))), "fix", 2)
            self.refuses(("gap", ("fix", "a", ("fix", place, leaf, leaf), leaf)), "fix", 1)
        self.refuses(("gap", ("fix", "a", ("fix", "a", leaf, leaf), leaf)), "fix", 1)
        self.refuses(("gap", ("fix", "a", ("above", P), ("fix", "a", leaf, leaf))), "fix", 2)
        # The same place may be fixed on two ways.
        paper = ("gap", ("fix", "b", ("fix", "a", ("above", P), ("below", P)), ("fix", "a", ("above", P), ("below", P))))
        self.assertIsNone(self.reason(paper))
        self.refuses(("gap", ("fix", "b", ("fix", "a", ("above", P), ("below", P)),
                              ("fix", "a", ("below", P), ("above", P)))), "bound", 5)

    def test_a_fix_holds_for_all_nodes_below_it(self):
        deep = ("fix", "b", ("fix", "d", ("above", P), ("above", P)), ("fix", "d", ("above", P), ("above", P)))
        self.assertIsNone(self.reason(("gap", ("fix", "a", deep, ("below", P)))))
        self.refuses(("gap", ("fix", "a", ("below", P), deep)), "bound", 1)
        self.refuses(("gap", ("fix", "a", ("above", P), deep)), "bound", 4)
        self.refuses(("gap", ("fix", "b", TREE, ("above", P))), "bound", 4)

    def test_a_tree_with_seven_fixes(self):
        tree = tree_of(NAMES, ("above", ()))
        asked = {"history": FREE, "trusted": (), "moment": 0, "places": NAMES}
        self.assertIsNone(self.reason(("gap", tree), number=8, **asked))
        self.refuses(("gap", tree_of(NAMES + ("a",), ("above", ()))), "fix", 7, number=8, **asked)
        # The last leaf has seven marked places, the one before it has six.
        self.refuses(("gap", tree), "bound", 254, number=7, **asked)
        # The nodes 0 and 128 to 132 fix a to f, then 133 to 135 have f plain, 136 fixes g, and 138 has a, f, g marked.
        self.refuses(("gap", tree), "bound", 138, number=3, **{**asked, "places": ("a", "f", "g")})

    def test_clashes(self):
        asked = {"history": CLASHING, "trusted": (0,), "moment": 0, "places": ("a",)}
        self.assertIsNone(self.reason(("gap", ("clash", ("a", -1, 1))), **asked))
        for stretch in (("a", 1, 3), ("b", -1, 1), ("a", -1, 3), ("e", -1, 1), ("a", 1, 1), ["a", -1, 1], ("a", True, 3),
                        ("a", -1, True), ("a", -1), ("a", -1, 1, 1), (1, -1, "a"), ("a", SIXTY, 1), (["a"], -1, 1)):
            self.refuses(("gap", ("clash", stretch)), "clash", 0, **asked)
        self.assertEqual(asked["trusted"], (0,))

    def test_a_fix_that_leaves_no_mark(self):
        # The place a is marked at moment 0, and c has its mark until moment 2.
        plain = ("clash", ("a", -1, 0))
        asked = {"trusted": (), "moment": 0, "places": ("a",), "number": 0}
        self.assertIsNone(self.reason(("gap", ("fix", "a", plain, ("below", ZERO))), **asked))
        self.refuses(("gap", ("fix", "a", ("below", ZERO), ("below", ZERO))), "bound", 1, **asked)
        self.refuses(("gap", ("fix", "a", ("above", ZERO), ("below", ZERO))), "bound", 1, **asked)
        self.refuses(("gap", ("fix", "a", ("below", ZERO), plain)), "bound", 1, **asked)
        self.refuses(("gap", ("fix", "a", plain, plain)), "clash", 2, **asked)
        self.refuses(("gap", ("fix", "a", plain, ("fix", "c", plain, ("below", ZERO)))), "clash", 3, **asked)

    def test_prices_before_bounds(self):
        for prices in (UNEVEN, ZERO[:3], ZERO + (None,), list(ZERO), ((0, 0), (0, 0), (0, 0), (0, True)), (None,) * 4, None):
            for word in ("above", "below"):
                self.refuses(("gap", (word, prices)), "prices", 0)
                self.refuses(("gap", ("fix", "a", ("above", P), (word, prices))), "prices", 2)
        asked = {"history": CLASHING, "trusted": (0,), "moment": 0, "places": ("a",)}
        self.refuses(("gap", ("above", (None, (0, 1), None))), "prices", 0, **asked)
        self.refuses(("gap", ("above", (None, (0, 0), None))), "bound", 0, **asked)
        self.refuses(("gap", ("below", (None, (0, 0), None))), "bound", 0, **asked)

    def test_bounds_are_strict(self):
        for number, above, below in ((0, False, False), (2, False, False), (3, True, False), (10 ** 20, True, False)):
            self.assertIs(self.reason(("gap", ("above", ZERO)), number=number) is None, above)
            self.assertIs(self.reason(("gap", ("below", ZERO)), number=number) is None, below)
        self.assertIs(self.reason(("gap", ("below", ZERO)), moment=0, number=1), None)
        self.refuses(("gap", ("below", ZERO)), "bound", 0, moment=0, number=2)
        self.refuses(("gap", ("above", ZERO)), "bound", 0, moment=0, number=2)

    def test_without_a_course(self):
        asked = {"history": EMPTY, "trusted": (1,), "moment": 1, "places": ("a",)}
        for number in (0, 1, 2, 10 ** 20):
            kind, tree = number_paper(EMPTY, (1,), 1, ("a",), number)
            self.assertIsNone(self.reason((kind, tree), number=number, **asked))
        weak = ("gap", ("below", number_paper(EMPTY, (1,), 1, ("a",), 0)[1][1]))
        self.refuses(weak, "bound", 0, number=10 ** 20, **asked)

    def test_papers_with_parts_replaced(self):
        chance = random.Random(39)
        seen = {}
        asked = [*telling_cases(1500), *gap_cases(1200)]
        for history, trusted, moment, places in asked:
            number = chance.randint(0, len(places) + 1)
            paper = number_paper(history, trusted, moment, places, number)
            thing = self.replaced(chance, history, trusted, paper)
            before = copy.deepcopy(thing)
            reason = self.reason(thing, trusted, history, moment, places, number)
            self.assertTrue(same(thing, before))
            if reason is None:
                # Papers of both kinds are never accepted for one number.
                self.assertEqual(thing[0], paper[0])
            seen[reason and reason[0]] = seen.get(reason and reason[0], 0) + 1
        words = {None, "shape", "fix", "clash", "prices", "bound", "many", "state", "start", "event", "report", "number"}
        self.assertEqual({word for word in seen if seen[word] > 3}, words)

    def replaced(self, chance, history, trusted, paper):
        kind, part = paper
        for _ in range(chance.choice((1, 2))):
            way = chance.randrange(4)
            if way == 0:
                return changed(chance, (kind, part), chance.choice((1, 2)))
            if way == 1:
                kind, part = "occurs", random_course(chance.random(), history, chance.choice(((), trusted)))
                part = part and chance.choice((part, part, part[::-1], part[1:] + part[:1]))
            elif kind == "gap":
                part = self.replaced_tree(chance, history, part)
            else:
                kind, part = "gap", self.random_tree(chance, history, 2)
        return kind, part

    def replaced_tree(self, chance, history, tree):
        if tree[0] == "fix" and chance.random() < 0.7:
            at = chance.choice((2, 3))
            return tree[:at] + (self.replaced_tree(chance, history, tree[at]),) + tree[at + 1:]
        if tree[0] == "fix":
            return (*tree[:2], tree[3], tree[2]) if chance.random() < 0.5 else ("fix", chance.choice("abz"), *tree[2:])
        return chance.choice((self.random_tree(chance, history, 2), (tree[0], changed(chance, tree[1], 1)),
                              ("fix", chance.choice(names_of(history)), tree, tree)))

    def random_tree(self, chance, history, depth):
        if depth and chance.random() < 0.5:
            place = chance.choice(names_of(history))
            return ("fix", place, self.random_tree(chance, history, depth - 1), self.random_tree(chance, history, depth - 1))
        prices = chance.choice((random_level_prices(chance, history), zero_prices(history)))
        return chance.choice((("above", prices), ("below", prices), ("clash", chance.choice(oracles.slow_stretches(history)))))

    def test_errors_in_order(self):
        for thing in (None, ("gap", TREE), ("occurs", ())):
            for found, expected in question_errors(lambda t, m, p: lets_number(HISTORY, t, m, p, 1, thing), HISTORY):
                self.assertEqual(found, expected)

    def test_families_and_names(self):
        for kind in (InvalidPaper, PaperError, BagsError):
            with self.assertRaises(kind):
                lets_number(HISTORY, (), 2, (), 0, None)
        with self.assertRaises(MomentOutOfRange):
            lets_number(HISTORY, (), 5, (), 0, None)
        named = {"thing": ("gap", TREE), "number": 1, "places": ("a", "c"), "moment": 2, "trusted": (2, 3),
                 "history": HISTORY}
        self.assertEqual(lets_number(**named), "gap")


if __name__ == "__main__":
    unittest.main()
