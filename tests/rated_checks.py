"""What the checkers of cost papers and of part papers have in common, for their tests."""

import copy
import random

from tests import costly, oracles
from tests.support import (
    ODD_VALUES, TWO, outcome, paper_error, random_course, same, zero_prices,
)
from tests.test_costs import priced_cases
from tests.test_movepapers import replaced_pair

STILL = (("a",), ("b",), ("b",), ("b",), ("a",))
PRICED = (1, 2, 3)
WORDS = {None, ("shape", True), ("many", True), ("state", False), ("start", True), ("event", False), ("report", False),
         ("prices", True), ("prices", False), ("level", False), ("bound", True)}


class RatedPaperChecks:
    """Checks for a test case that has call, rates and value, and PRICES, which are right for STILL."""

    def reason(self, thing, trusted=(), priced=PRICED, history=TWO, weights=(), person="cy"):
        """Why the value is refused, by the checker and the oracle, or None."""
        rates = self.rates(history, priced, weights, person)
        expected = costly.rated_reason(history, trusted, rates, thing)
        found = outcome(self.call, history, trusted, priced, person, thing, weights=weights)
        right = paper_error(*expected) if expected is not None else (
            "returns", self.value(history, priced, weights, person, thing[0]))
        self.assertTrue(same(found, right), thing)
        return expected

    def refuses(self, thing, word, at, **named):
        self.assertEqual(self.reason(thing, **named), (word, at), thing)

    def test_accepts(self):
        self.assertIsNone(self.reason((STILL, self.PRICES)))

    def test_shape(self):
        for thing in ODD_VALUES:
            if thing != ((), ()):
                self.refuses(thing, "shape", -1)
            if not oracles.is_states(thing):
                self.refuses((thing, self.PRICES), "shape", -1)
            if not oracles.is_price_tuple(thing):
                self.refuses((STILL, thing), "shape", -1)
            self.refuses((STILL, self.PRICES, thing), "shape", -1)
        for thing in ([STILL, self.PRICES], (list(STILL), self.PRICES), (STILL, list(self.PRICES)), (STILL,),
                      (self.PRICES, STILL), (STILL[:4] + (["a"],), self.PRICES), (STILL, ([1, 1], None, None, (1, 0))),
                      (STILL, ((1, True), None, None, (1, 0))), (STILL, ((1, 1), None, None, (1, False))),
                      (STILL, ((1, 1), 0, None, (1, 0))), (STILL, ((1, None), None, None, (1, 0))), (STILL, (1, 1)),
                      (STILL[:4] + ((True,),), self.PRICES), (STILL, ((1, "1"), None, None, (1, 0)))):
            self.refuses(thing, "shape", -1)
        self.refuses(((), ()), "many", -1)

    def test_errors_of_the_course_come_first(self):
        for course in (STILL[:4], STILL + (("a",),), (("a", "a"),) * 5, (("h",),) * 5, (("b",),) * 5, ((),) * 5,
                       (("a",), ("b",), ("a",), ("a",), ("a",)), (("a",), ("a", "b"), ("a",), ("b",), ("b",))):
            expected = oracles.course_reason(TWO, (), course)
            self.assertIsNotNone(expected)
            for prices in (self.PRICES, (), ((9, 1), (0, 0), None, None)):
                self.refuses((course, prices), *expected)
        self.refuses((STILL, ()), "report", 1, trusted=(1,), priced=(2, 3))
        self.refuses((STILL, self.PRICES), "report", 3, trusted=(3,), priced=(1, 2))

    def test_prices(self):
        for prices in ((), self.PRICES[:3], self.PRICES + (None,), (None,), ((9, 1),)):
            self.refuses((STILL, prices), "prices", -1)
        for prices, at in ((((1, 1), None, None, (1,)), 3), (((1, 1), None, None, None), 3), ((None,) * 4, 0),
                           (((1,), None, None, (1, 0)), 0), (((1, 2), (0,), None, (1, 0)), 1),
                           (((1, 2), None, (), (1, 0)), 2), (((1, 1, 1), None, None, (1, 0)), 0),
                           (((1, 2), None, None, (1, 0, 0)), 3), (((), None, None, ()), 0)):
            self.refuses((STILL, prices), "prices", at)

    def test_prices_that_are_not_level(self):
        for entry in ((0, 1), (1, 0), (-1, 1), (10 ** 60, 10 ** 60 - 1)):
            self.refuses((STILL, (entry, *self.PRICES[1:])), "level", 0)
        history = (TWO[0], TWO[1][:1] + TWO[1])
        course = STILL[:1] + STILL
        self.refuses((course, ((2, 2), (1, 2), None, None, (1, 0))), "level", 1, history=history, priced=(2, 3, 4))
        self.refuses((course, ((2, 3), (1, 2), None, None, (1, 0))), "level", 0, history=history, priced=(2, 3, 4))
        # A pour may have any two integers.
        self.refuses((STILL, ((1, 1), None, None, (5, -5))), "bound", -1)

    def test_papers_with_parts_replaced(self):
        chance = random.Random(62)
        seen = {}
        for history, trusted, priced, weights in priced_cases(4000):
            person = chance.choice(("ann", "bob", "cy", "dot", "eve", "zed"))
            paper = self.paper(history, trusted, priced, person, weights)
            paper = paper or (random_course(1, history, ()), zero_prices(history))
            thing = replaced_pair(chance, history, trusted, paper)
            before = copy.deepcopy(thing)
            reason = self.reason(thing, trusted, priced, history, weights, person)
            self.assertTrue(same(thing, before))
            if reason is None:
                found = self.value(history, priced, weights, person, thing[0])
                self.assertEqual(found, self.value(history, priced, weights, person, paper[0]))
            kind = reason and (reason[0], reason[1] == -1)
            seen[kind] = seen.get(kind, 0) + 1
        self.assertEqual({kind for kind in seen if seen[kind] > 4}, WORDS)

    def test_errors(self):
        for thing in (None, (STILL, self.PRICES)):
            for trusted, priced, wrong in (((0,), (4,), 0), ((1, 9), (-1,), 9), ((1,), (2, -1, 0), -1), ((), (1, 10 ** 60), 10 ** 60)):
                found = outcome(self.call, TWO, trusted, priced, "cy", thing)
                self.assertEqual(found, ("NotAReport", (("position", wrong),)))
