import unittest

from mixedbags.costchecker import lets_cost
from mixedbags.costpapers import cost_paper
from mixedbags.errors import BagsError, InvalidPaper, NotAReport, PaperError
from tests import costly
from tests.rated_checks import STILL, RatedPaperChecks
from tests.support import BAD, TWO


class CostCheckerTest(RatedPaperChecks, unittest.TestCase):
    PRICES = ((1, 1), None, None, (1, 0))

    def call(self, history, trusted, priced, _, thing, *, weights=()):
        return lets_cost(history, trusted, priced, thing, weights=weights)

    def rates(self, history, priced, weights, _):
        return costly.slow_rates(history, priced, weights)

    def value(self, history, priced, weights, _, course):
        return costly.slow_rated_cost(history, costly.slow_rates(history, priced, weights), course)

    def paper(self, history, trusted, priced, _, weights):
        return cost_paper(history, trusted, priced, weights=weights)

    def test_example(self):
        self.assertIs(type(lets_cost(TWO, (), (1, 2, 3), (STILL, self.PRICES))), int)
        self.assertEqual(lets_cost(TWO, (), (1, 2, 3), (STILL, self.PRICES)), 2)

    def test_weights(self):
        # With heavier reports the same prices give too small a bound, or the course is not a cheapest one.
        self.assertIsNone(self.reason((STILL, self.PRICES), weights=(("ann", 9), ("dot", 9))))
        for weights in ((("cy", 2),), (("eve", 2),), (("cy", 9), ("dot", 9), ("eve", 9))):
            self.refuses((STILL, self.PRICES), "bound", -1, weights=weights)
        self.assertIsNone(self.reason((STILL, ((2, 2), None, None, (2, 0))), weights=(("eve", 2),)))

    def test_a_course_that_is_not_a_cheapest_one(self):
        course = (("a",), ("a",), ("a",), ("a",), ("a",))
        self.assertIsNone(self.reason((course, self.PRICES)))
        self.refuses((course, self.PRICES), "bound", -1, weights=(("dot", 3),))
        self.refuses((course, ((0, 0), None, None, (0, 0))), "bound", -1)
        self.refuses((((("a",),) * 2), (None,)), "bound", -1, history=((("a", None),), BAD[1]), priced=(0,))

    def test_families_and_names(self):
        for kind in (InvalidPaper, PaperError, BagsError):
            with self.assertRaises(kind):
                lets_cost(TWO, (), (), None)
        with self.assertRaises(NotAReport):
            lets_cost(TWO, (0,), (), None)
        named = {"weights": (), "thing": (STILL, self.PRICES), "priced": (1, 2, 3), "trusted": (), "history": TWO}
        self.assertEqual(lets_cost(**named), 2)
        with self.assertRaises(TypeError):
            lets_cost(TWO, (), (1, 2, 3), (STILL, self.PRICES), ())


if __name__ == "__main__":
    unittest.main()
