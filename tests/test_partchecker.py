import unittest

from mixedbags.errors import BagsError, InvalidPaper, NotAReport, PaperError
from mixedbags.partchecker import lets_part
from mixedbags.partpapers import part_paper
from tests import costly
from tests.rated_checks import STILL, RatedPaperChecks
from tests.support import TWO


class PartCheckerTest(RatedPaperChecks, unittest.TestCase):
    # The person of the checks is cy, who has the factor 2, so that eve costs 2 and cy 3.
    PRICES = ((2, 2), None, None, (2, 0))

    def call(self, history, trusted, priced, person, thing, *, weights=()):
        return lets_part(history, trusted, priced, person, thing, weights=weights)

    def rates(self, history, priced, weights, person):
        return costly.slow_rates(history, priced, weights, person)

    def value(self, history, priced, weights, person, course):
        rates = costly.slow_rates(history, priced, weights)
        return sum(rate * costly.miss_of(history, at, costly.mask_of(history, course[at]))
                   for at, rate in rates.items() if history[1][at][1] == person)

    def paper(self, history, trusted, priced, person, weights):
        return part_paper(history, trusted, priced, person, weights=weights)

    def test_accepts(self):
        # The course is a cheapest one, but a part of its cost falls on cy, and another one spares her.
        self.refuses((STILL, self.PRICES), "bound", -1)
        self.assertIsNone(self.reason((STILL, self.PRICES), person="zed", weights=(("cy", 2), ("dot", 2), ("eve", 2))))

    def test_example(self):
        thing = ((("a",),) * 5, self.PRICES)
        self.assertIsNone(self.reason(thing))
        self.assertIs(type(lets_part(TWO, (), (1, 2, 3), "cy", thing)), int)
        self.assertEqual(lets_part(TWO, (), (1, 2, 3), "cy", thing), 0)

    def test_persons(self):
        thing = ((("a",),) * 5, self.PRICES)
        for person, expected in (("cy", None), ("dot", ("bound", -1)), ("eve", ("bound", -1)), ("ann", ("bound", -1))):
            self.assertEqual(self.reason(thing, person=person), expected)
        self.assertIsNone(self.reason((STILL, self.PRICES), person="dot"))
        # Without priced reports of the person the scaled costs are the costs.
        self.assertIsNone(self.reason((STILL, ((1, 1), None, None, (1, 0))), person="ann"))
        self.assertEqual(lets_part(TWO, (), (1, 2, 3), "nobody", (STILL, ((1, 1), None, None, (1, 0)))), 0)

    def test_scaled_costs(self):
        # The factor of eve is 3: her pour of two places costs 3 + 1, the looks cost 3.
        paper = ((("a",),) * 5, ((4, 4), None, None, (4, 0)))
        self.assertIsNone(self.reason(paper, person="eve"))
        self.assertEqual(lets_part(TWO, (), (1, 2, 3), "eve", paper), 1)
        for rate in (1, 2, 3, 5):
            prices = ((rate, rate), None, None, (rate, 0))
            self.refuses((paper[0], prices), "bound", -1, person="eve")

    def test_families_and_names(self):
        for kind in (InvalidPaper, PaperError, BagsError):
            with self.assertRaises(kind):
                lets_part(TWO, (), (), "cy", None)
        with self.assertRaises(NotAReport):
            lets_part(TWO, (0,), (), "cy", None)
        named = {"weights": (), "thing": ((("a",),) * 5, self.PRICES), "person": "cy", "priced": (1, 2, 3), "trusted": (),
                 "history": TWO}
        self.assertEqual(lets_part(**named), 0)
        with self.assertRaises(TypeError):
            lets_part(TWO, (), (1, 2, 3), "cy", named["thing"], ())


if __name__ == "__main__":
    unittest.main()
