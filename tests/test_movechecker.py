import copy
import random
import unittest

from mixedbags.errors import BagsError, InvalidPaper, NotAReport, PaperError
from mixedbags.movechecker import lets_moved
from mixedbags.movepapers import move_paper
from mixedbags.moves import least_moved
from tests import oracles, paper_oracles
from tests.support import (
    CLASHING, HISTORY, ODD_VALUES, ONE, PERSONS, SIXTY, outcome, paper_error, random_course,
    reports_in, same, zero_prices,
)
from tests.test_movepapers import replaced_pair
from tests.test_moves import SWAP, moving_cases

COURSE = (("a",), ("b",), ("c",), ("c",))
PRICES = ((0, -1), (-1, -2), None)
BOTH = ("ann", "bob")


class MoveCheckerTest(unittest.TestCase):
    def reason(self, thing, persons=BOTH, trusted=(2,), history=ONE):
        """Why the value is refused, by the checker and the oracle, or None."""
        expected = paper_oracles.moved_reason(history, trusted, persons, thing)
        found = outcome(lets_moved, history, trusted, persons, thing)
        right = paper_error(*expected) if expected is not None else (
            "returns", paper_oracles.moved_count(history, thing[0], persons))
        self.assertTrue(same(found, right), thing)
        return expected

    def refuses(self, thing, word, at, *args, **named):
        self.assertEqual(self.reason(thing, *args, **named), (word, at), thing)

    def test_examples(self):
        self.assertTrue(same(lets_moved(ONE, (2,), BOTH, (COURSE, PRICES)), 2))
        self.refuses((COURSE, PRICES), "step", 1, ("ann",))

    def test_shape(self):
        for thing in ODD_VALUES:
            if thing != ((), ()):
                self.refuses(thing, "shape", -1)
            if not oracles.is_states(thing):
                self.refuses((thing, PRICES), "shape", -1)
            if not oracles.is_price_tuple(thing):
                self.refuses((COURSE, thing), "shape", -1)
            self.refuses((COURSE, PRICES, thing), "shape", -1)
        for thing in ([COURSE, PRICES], (list(COURSE), PRICES), (COURSE, list(PRICES)), (COURSE,), (PRICES, COURSE),
                      ((("a",), ["b"], ("c",), ("c",)), PRICES), (COURSE, ((0, -1), [-1, -2], None)),
                      (COURSE, ((0, True), (0, 1), None)), (COURSE, ((0, -1), (-1, "2"), None)), (COURSE, (0, 1, None)),
                      (COURSE, ((0, -1), (-1, None), None)), (((), ("a", 1)), PRICES), (COURSE, ((0, (-1,)), None))):
            self.refuses(thing, "shape", -1)
        self.refuses(((), ()), "many", -1)

    def test_errors_of_the_course(self):
        for course in (COURSE[:3], COURSE + (("c",),), (("a", "a"),) * 4, (("h",),) * 4, (("b",),) * 4, (("a",), ("c",)) * 2,
                       (("a",),) * 4, (("a",), ("b",), ("c",), ("b",)), (("a",), ("b",), ("b",), ("b",))):
            expected = oracles.course_reason(ONE, (2,), course)
            for prices in (PRICES, (), ((9, 1), (3, 3), None)):
                self.refuses((course, prices), *expected)
        self.refuses(((("a",),) * 4, PRICES), "report", 2)

    def test_prices(self):
        for prices in ((), PRICES[:2], PRICES + (None,), PRICES + ((0, 0),), (None,), ((9, 1, 5),)):
            self.refuses((COURSE, prices), "prices", -1)
        for prices, at in (((None, None, None), 0), (((0,), (0, 0), None), 0), (((0, 9), (0, 0, 0), None), 1),
                           (((0, 9), (0, 9), ()), 2), (((0, 9), (0, 9), (0,)), 2), (((), (), ()), 0), ((None,) + PRICES[1:], 0)):
            self.refuses((COURSE, prices), "prices", at)
        history = HISTORY
        still = (("a", "c"),) * 5
        for entry, at in (((0,), 2), ((0, 0, 0), 2), (None, 2), ((), 2)):
            self.refuses((still, ((0, 0), (0, 0), entry, (0, 0))), "prices", at, trusted=(), history=history)

    def test_steps(self):
        for prices, persons, at in ((((0, 2), (0, 0), None), BOTH, 0), (((0, -2), (0, 5), None), BOTH, 0),
                                    (((0, 1), (0, 2), None), BOTH, 1), (((0, 1), (0, 0), None), ("bob",), 0),
                                    (((0, 1), (0, 2), None), ("ann",), 1), (((0, 1), (1, 1), None), (), 0),
                                    (((SIXTY, -SIXTY), (1, 1), None), BOTH, 0), (((0, 0), (2, 3), None), ("cy", "zed"), 1)):
            self.refuses((COURSE, prices), "step", at, persons)
        course = (("a", "b"), ("c", "d"), ("c", "d"), ("c", "d"))
        self.assertIsNone(self.reason((course, ((0, 0, -1, -1), None, None)), ("ann",), (1, 2), SWAP))
        self.refuses((course, ((1, 1, 0, 0), None, None)), "bound", -1, ("ann",), (1, 2), SWAP)
        for entry in ((0, 1, 2, 1), (0, -1, 1, 0), (5, 5, 5, 3)):
            self.refuses((course, (entry, None, None)), "step", 0, ("ann",), (1, 2), SWAP)

    def test_pours_may_have_any_prices(self):
        history = (ONE[0], (("pour", "cy", ("a", "b"), 1),))
        course = (("a",), ("a",))
        self.assertIsNone(self.reason((course, ((0, 0),)), (), (), history))
        self.refuses((course, ((7, -7),)), "bound", -1, (), (), history)

    def test_the_bound(self):
        for prices in (((0, 0), (0, 0), None), ((0, -1), (0, 0), None), ((0, -1), (-1, -1), None), ((1, 0), (1, 0), None),
                       ((0, 1), (1, 2), None), ((5, 4), (4, 4), None), ((7, 6), (6, 5), None)):
            self.refuses((COURSE, prices), "bound", -1)
        self.refuses((COURSE, PRICES), "bound", -1, trusted=())
        still = (("a",),) * 4
        self.assertIsNone(self.reason((still, ((0, 0), (0, 0), None)), trusted=()))
        # A course that moves more than needed has no such prices.
        self.refuses((COURSE, ((0, 0), (0, 0), None)), "bound", -1, trusted=())
        self.assertIsNone(self.reason((COURSE, ((0, 0), (0, 0), None)), persons=(), trusted=()))

    def test_two_marks_at_one_mix(self):
        paper = move_paper(SWAP, (1, 2), ("ann",))
        self.assertIsNone(self.reason(paper, ("ann",), (1, 2), SWAP))
        self.assertEqual(lets_moved(SWAP, (1, 2), ("ann",), paper), 2)
        self.refuses(paper, "step", 0, (), (1, 2), SWAP)

    def test_courses_of_other_histories(self):
        self.refuses(((("a",), ("b",), ("b",), ("b",), ("b",)), PRICES), "many", -1)
        self.refuses(((("a", "c"),) * 5, ((0, 0),) * 4), "many", -1)
        self.refuses(((("a",),) * 4, (None,) * 3), "report", 0, history=(ONE[0], CLASHING[1]), trusted=(0,))

    def test_papers_with_parts_replaced(self):
        chance = random.Random(52)
        seen = {}
        for history, trusted, persons in moving_cases(5000):
            paper = move_paper(history, trusted, persons) or (random_course(1, history, ()), zero_prices(history))
            thing = replaced_pair(chance, history, trusted, paper)
            asked = chance.choice((persons, persons, (), PERSONS))
            before = copy.deepcopy(thing)
            reason = self.reason(thing, asked, trusted, history)
            self.assertTrue(same(thing, before))
            if reason is None:
                self.assertEqual(paper_oracles.moved_count(history, thing[0], asked), least_moved(history, trusted, asked))
            kind = reason and (reason[0], reason[1] == -1)
            seen[kind] = seen.get(kind, 0) + 1
        kinds = {None, ("shape", True), ("many", True), ("state", False), ("start", True), ("event", False), ("report", False),
                 ("prices", True), ("prices", False), ("step", False), ("bound", True)}
        self.assertEqual({kind for kind in seen if seen[kind] > 4}, kinds)

    def test_errors(self):
        for thing in (None, (COURSE, PRICES)):
            for position in (0, 1, 3, -1, SIXTY):
                found = outcome(lets_moved, ONE, (2, position, 9), BOTH, thing)
                self.assertEqual(found, ("NotAReport", (("position", position),)))
        self.assertEqual(reports_in(ONE), (2,))

    def test_families_and_names(self):
        for kind in (InvalidPaper, PaperError, BagsError):
            with self.assertRaises(kind):
                lets_moved(ONE, (), (), None)
        with self.assertRaises(NotAReport):
            lets_moved(ONE, (0,), (), None)
        self.assertEqual(lets_moved(thing=(COURSE, PRICES), persons=BOTH, trusted=(2,), history=ONE), 2)


if __name__ == "__main__":
    unittest.main()
