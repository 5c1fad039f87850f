import random
import unittest

from mixedbags.costchecker import lets_cost
from mixedbags.costpapers import cost_bound, cost_paper
from mixedbags.costs import cost_of, least_cost
from tests import costly
from tests.support import (
    BAD, CLASHING, EIGHT, EMPTY, HISTORY, PERSONS, SEVEN, SIXTY, TWO, outcome, random_course, random_history,
    random_level_prices, reports_in, same, telling_cases, zero_prices,
)
from tests.test_costs import priced_cases, random_weights
from tests.totals import least_price

PRICES = ((1, 1), None, None, (1, 0))


def wrong_positions(call, *args):
    """Check the errors of a function that takes history, trusted and priced, and then these arguments."""
    for trusted in ((), (1,), (0,), (-1, 9), (1, 4), (True,)):
        for priced in ((), (2, 3), (2, 7, 0), (SIXTY,), (-2,), (0, 2), (2, True)):
            wrong = [at for at in (*trusted, *priced) if type(at) is bool or at not in (1, 2, 3)]
            if wrong:
                found = outcome(call, TWO, trusted, priced, *args, weights=(("eve", 2),))
                yield same(found, ("NotAReport", (("position", wrong[0]),)))


class CostBoundTest(unittest.TestCase):
    def test_example(self):
        self.assertTrue(same(cost_bound(TWO, (), (1, 2, 3), PRICES), 2))

    def test_against_the_definition(self):
        chance = random.Random(60)
        nones = 0
        for history, trusted, priced, weights in priced_cases(300):
            rates = costly.slow_rates(history, priced, weights)
            for size in (0, 1, 3, 12, SIXTY):
                prices = random_level_prices(chance, history, size)
                found = cost_bound(history, trusted, priced, prices, weights=weights)
                self.assertTrue(same(found, costly.slow_rated_bound(history, trusted, rates, prices)))
                nones += found is None
        self.assertGreater(nones, 10)

    def test_never_above_the_cost_of_a_course(self):
        chance = random.Random(61)
        reached = 0
        for history, trusted, priced, weights in priced_cases(400):
            course = random_course(chance.random(), history, trusted)
            if course is None:
                continue
            cost = cost_of(history, priced, course, weights=weights)
            for size in (0, 1, 2, 9, SIXTY):
                bound = cost_bound(history, trusted, priced, random_level_prices(chance, history, size), weights=weights)
                self.assertLessEqual(bound, cost)
                reached += 0 < bound == cost
        self.assertGreater(reached, 20)

    def test_single_reports(self):
        looks = ((("a", 1), ("b", None)), (("look", "cy", "a", 0), ("look", "dot", "b", 0), ("look", "cy", "b", 1)))
        none = (None, None, None)
        found = [cost_bound(looks, (), priced, none, weights=(("cy", 5),)) for priced in ((), (0,), (1,), (2,), (1, 2), (0, 1, 2))]
        self.assertEqual(found, [0, 5, 0, 0, 1, 6])
        self.assertEqual(cost_bound(looks, (2,), (0, 1), none, weights=(("cy", 5), ("dot", 9))), 14)

    def test_looks_before_and_behind_the_end_of_a_stretch(self):
        history = ((("a", 1),), (("look", "cy", "a", 0), ("new", "a", 0), ("look", "cy", "a", 1), ("look", "cy", "a", 0)))
        for priced, expected in (((0,), 1), ((2,), 1), ((3,), 0), ((0, 2, 3), 2)):
            self.assertEqual(cost_bound(history, (), priced, (None,) * 4), expected)

    def test_pours(self):
        names = tuple("abc")
        history = (tuple((name, 1) for name in names), (("pour", "cy", names, 1),))
        for before, expected in ((0, 0), (1, 1), (2, 4), (5, 4), (-9, -27)):
            found = cost_bound(history, (), (0,), ((before, 0),), weights=(("cy", 2),))
            self.assertEqual(found, costly.slow_rated_bound(history, (), {0: 2}, ((before, 0),)))
            self.assertLessEqual(found, 4)
        self.assertEqual(cost_bound(history, (), (0,), ((2, 0),), weights=(("cy", 2),)), 4)
        # A trusted pour has the reported number, and no cost.
        self.assertEqual(cost_bound(history, (0,), (), ((2, 0),)), 4)
        self.assertEqual(cost_bound(history, (0,), (), ((0, 3),)), -6)

    def test_without_a_mark(self):
        self.assertIsNone(cost_bound(BAD, (0,), (), (None,)))
        self.assertIsNone(cost_bound(CLASHING, (0,), (2,), (None, (3, 3), None)))
        self.assertEqual(cost_bound(BAD, (), (0,), (None,), weights=(("cy", 7),)), 7)
        # There is no course here, but each stretch has an allowed mark.
        self.assertEqual(cost_bound(EMPTY, (1,), (), zero_prices(EMPTY)), 0)

    def test_errors(self):
        self.assertTrue(all(wrong_positions(cost_bound, PRICES)))
        self.assertGreater(len(list(wrong_positions(cost_bound, PRICES))), 20)

    def test_arguments_by_name(self):
        self.assertEqual(cost_bound(weights=(("eve", 9),), prices=PRICES, priced=(1, 2, 3), trusted=(), history=TWO), 2)
        with self.assertRaises(TypeError):
            cost_bound(TWO, (), (1, 2, 3), PRICES, ())


class CostPaperTest(unittest.TestCase):
    def cost(self, history, trusted, priced, weights=()):
        """The cost of a paper that the checker and the oracle accept, or None."""
        paper = cost_paper(history, trusted, priced, weights=weights)
        if paper is None:
            return None
        self.assertIsNone(costly.rated_reason(history, trusted, costly.slow_rates(history, priced, weights), paper))
        return lets_cost(history, trusted, priced, paper, weights=weights)

    def test_papers_show_the_least_cost(self):
        seen = {}
        for history, trusted, priced, weights in priced_cases(600):
            found = self.cost(history, trusted, priced, weights)
            self.assertTrue(same(found, least_price(history, trusted, priced, weights)))
            seen[found] = seen.get(found, 0) + 1
        self.assertTrue({None, 0, 1, 2, 3, 4, 5} <= {key for key in seen if seen[key] > 2})

    def test_all_some_and_no_reports_priced(self):
        for history, trusted, _, _ in telling_cases(250):
            free = tuple(at for at in reports_in(history) if at not in trusted)
            for priced in (free, free[::2], ()):
                self.assertEqual(self.cost(history, trusted, priced), least_price(history, trusted, priced, ()))

    def test_great_histories(self):
        greatest = 0
        for seed in range(120):
            history = random_history(seed, 7, 14, 0.2, ("mix", "look", "look", "pour", "pour"))
            reports = reports_in(history)
            weights = random_weights(random.Random(seed)) if seed % 2 else tuple((person, 9) for person in PERSONS)
            for trusted in ((), reports[:1], reports[:4:2]):
                priced = tuple(at for at in reports if at not in trusted)
                for chosen in (priced, priced[:7]):
                    found = self.cost(history, trusted, chosen, weights)
                    self.assertEqual(found, least_cost(history, trusted, chosen, weights=weights))
                    greatest = max(greatest, found or 0)
        self.assertGreater(greatest, 80)

    def test_a_pour_that_is_off_by_several_marks(self):
        names = tuple("abcdefg")
        history = (tuple((name, 1) for name in names), (("mix", "ann", names), ("pour", "cy", names, 2), ("pour", "dot", names, 0)))
        self.assertEqual(self.cost(history, (), (1, 2), (("cy", 9),)), 52)
        self.assertEqual(self.cost(history, (), (1,), ()), 5)
        self.assertIsNone(self.cost(history, (1,), (2,), ()))

    def test_no_places_but_one_and_no_events(self):
        self.assertEqual(cost_paper(((("a", None),), ()), (), ())[1], ())
        self.assertEqual(self.cost(((("a", None),), ()), (), ()), 0)
        self.assertEqual(self.cost(BAD, (), (0,), (("cy", 9),)), 9)
        self.assertEqual(self.cost(EIGHT, (), tuple(range(8))), 0)
        self.assertEqual(self.cost(SEVEN, (), tuple(range(8)), (("cy", 3), ("dot", 5))), 3)

    def test_without_a_course(self):
        for history, trusted in ((BAD, (0,)), (EMPTY, (1,)), (TWO, (1, 2)), (CLASHING, (0,))):
            self.assertIsNone(cost_paper(history, trusted, ()))
            priced = tuple(at for at in reports_in(history) if at not in trusted)
            self.assertIsNone(cost_paper(history, trusted, priced, weights=(("cy", 3),)))

    def test_errors(self):
        self.assertTrue(all(wrong_positions(cost_paper)))

    def test_arguments_by_name(self):
        paper = cost_paper(weights=(("dot", 3),), priced=(2, 3), trusted=(1,), history=TWO)
        self.assertEqual(lets_cost(TWO, (1,), (2, 3), paper, weights=(("dot", 3),)), 4)
        self.assertEqual(lets_cost(HISTORY, (), (), cost_paper(HISTORY, (), ())), 0)
        with self.assertRaises(TypeError):
            cost_paper(TWO, (1,), (2, 3), ())


if __name__ == "__main__":
    unittest.main()
