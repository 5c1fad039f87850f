import random
import unittest

from mixedbags.costs import cheapest_course, cost_of, least_cost
from mixedbags.coursechecker import lets_course
from tests.support import (
    BAD, CLASHING, EIGHT, EMPTY, HISTORY, PERSONS, SIXTY, TWO, is_course, mask_of, moving_history, outcome,
    random_course, random_history, random_trusted, reports_in, same,
)
from tests.totals import least_price, price_of

COURSE = (("a",), ("b",), ("b",), ("b",), ("a",))


def random_weights(chance):
    """Weights from 1 to 9 of some persons, one of whom is nobody."""
    return tuple((person, chance.randint(1, 9)) for person in sorted((*PERSONS, "zed")) if chance.random() < 0.6)


def priced_cases(count):
    """Histories, some with wrong reports, with trusted and priced reports and weights."""
    for seed in range(count):
        chance = random.Random(seed)
        history = random_history(seed, chance.randint(2, 5), chance.randint(2, 9), 0.3, ("mix", "look", "look", "pour", "new"))
        history = moving_history(seed) if seed % 3 == 0 else history
        trusted = random_trusted(seed, history) if seed % 2 else reports_in(history)[:1]
        share = chance.choice((0.5, 1))
        priced = tuple(at for at in reports_in(history) if at not in trusted and chance.random() < share)
        yield history, trusted, priced, random_weights(chance)


def slow_cost(history, priced, course, weights):
    return sum(price_of(history, history[1][at], mask_of(history, course[at]), weights) for at in priced)


class CostOfTest(unittest.TestCase):
    def test_example(self):
        self.assertTrue(same(cost_of(TWO, (1, 2, 3), COURSE, weights=(("eve", 4),)), 5))

    def test_step_by_step(self):
        chance = random.Random(53)
        seen = set()
        for history, _, priced, weights in priced_cases(400):
            course = random_course(chance.random(), history, ())
            found = cost_of(history, priced, course, weights=weights)
            self.assertTrue(same(found, slow_cost(history, priced, course, weights)))
            self.assertEqual(cost_of(history, priced, course), slow_cost(history, priced, course, ()))
            seen.add(found)
        self.assertGreater(len(seen), 15)

    def test_single_reports(self):
        self.assertEqual([cost_of(TWO, (at,), COURSE) for at in (1, 2, 3)], [1, 0, 1])
        self.assertEqual(cost_of(TWO, (), COURSE), 0)
        self.assertEqual(cost_of(TWO, (1,), COURSE, weights=(("cy", 9),)), 9)
        self.assertEqual(cost_of(TWO, (1,), COURSE, weights=(("ann", 5), ("dot", 9), ("zed", 3))), 1)

    def test_a_pour_costs_the_difference(self):
        names = tuple("abcd")
        history = (tuple((name, 1) for name in names), tuple(("pour", "cy", names, number) for number in range(5)))
        course = (names,) * 6
        self.assertEqual([cost_of(history, (at,), course) for at in range(5)], [4, 3, 2, 1, 0])
        self.assertEqual(cost_of(history, tuple(range(5)), course, weights=(("cy", 7),)), 70)

    def test_the_state_before_counts(self):
        # Before the pour a is plain, after it a is marked.
        history = (TWO[0], (("mix", "ann", ("a", "b")), ("pour", "eve", ("a",), 1), ("look", "eve", "a", 0)))
        self.assertEqual(cost_of(history, (1, 2), (("a",), ("b",), ("b",), ("b",))), 1)

    def test_errors(self):
        for position in (0, 4, -1, SIXTY):
            found = outcome(cost_of, TWO, (1, position, 9), COURSE)
            self.assertEqual(found, ("NotAReport", (("position", position),)))

    def test_arguments_by_name(self):
        self.assertEqual(cost_of(weights=(("eve", 4),), course=COURSE, priced=(1, 2, 3), history=TWO), 5)
        with self.assertRaises(TypeError):
            cost_of(TWO, (1, 2, 3), COURSE, (("eve", 4),))


class LeastCostTest(unittest.TestCase):
    def test_example(self):
        self.assertTrue(same(least_cost(TWO, (1,), (2, 3), weights=(("dot", 3),)), 4))

    def test_against_all_steps(self):
        seen = {}
        for history, trusted, priced, weights in priced_cases(700):
            found = least_cost(history, trusted, priced, weights=weights)
            self.assertTrue(same(found, least_price(history, trusted, priced, weights)))
            seen[found] = seen.get(found, 0) + 1
        self.assertGreater(len([key for key in seen if seen[key] > 1]), 12)
        self.assertTrue({None, 0, 1, 2, 3} <= set(seen))

    def test_all_reports_priced(self):
        for seed in range(200):
            history = random_history(seed, 2 + seed % 4, 2 + seed % 8, 0.2, ("mix", "look", "look", "pour"))
            reports = reports_in(history)
            weights = random_weights(random.Random(seed))
            self.assertEqual(least_cost(history, (), reports, weights=weights), least_price(history, (), reports, weights))

    def test_weights(self):
        history = (TWO[0], TWO[1][:1] + (("look", "cy", "a", 1), ("look", "dot", "a", 0)))
        for one in range(2, 10):
            for other in range(1, 10):
                weights = (("cy", one), ("dot", other))
                self.assertEqual(least_cost(history, (), (1, 2), weights=weights), min(one, other))
                self.assertEqual(least_cost(history, (1,), (2,), weights=weights), other)
        self.assertEqual(least_cost(history, (), (1, 2)), 1)
        self.assertEqual(least_cost(history, (), (1, 2), weights=(("ann", 9), ("zed", 9))), 1)

    def test_pours(self):
        names = tuple("abcdefg")
        history = (tuple((name, 1) for name in names), tuple(("pour", "cy", names, at % 8) for at in range(14)))
        self.assertEqual(least_cost(history, (), tuple(range(14)), weights=(("cy", 9),)), 9 * sum(7 - at % 8 for at in range(14)))
        free = (tuple((name, None) for name in names), (("pour", "cy", names, 2), ("pour", "dot", names, 6)))
        for weights, expected in (((), 4), ((("cy", 3),), 4), ((("cy", 3), ("dot", 2)), 8)):
            self.assertEqual(least_cost(free, (), (0, 1), weights=weights), expected)

    def test_consequences(self):
        for history, trusted, priced, weights in priced_cases(150):
            found = least_cost(history, trusted, priced, weights=weights)
            if found is None or not priced:
                continue
            agreed = tuple(sorted(trusted + priced))
            self.assertIs(found == 0, least_cost(history, agreed, ()) is not None)
            self.assertLessEqual(least_cost(history, trusted, priced[1:], weights=weights), found)
            heavy = tuple((person, 9) for person in PERSONS)
            self.assertGreaterEqual(least_cost(history, trusted, priced, weights=heavy), found)
            more = tuple(sorted(trusted + priced[:1]))
            stricter = least_cost(history, more, priced[1:], weights=weights)
            self.assertTrue(stricter is None or stricter >= found)

    def test_nothing_priced(self):
        for trusted in ((), (1,), (2,)):
            self.assertEqual(least_cost(TWO, trusted, ()), 0)
        self.assertEqual(least_cost(EIGHT, (0,), tuple(range(1, 8))), 0)

    def test_without_a_course(self):
        for call in (least_cost, cheapest_course):
            self.assertIsNone(call(BAD, (0,), ()))
            self.assertIsNone(call(EMPTY, (1,), (), weights=(("cy", 2),)))
            self.assertIsNone(call(TWO, (1, 2), (3,)))
            self.assertIsNone(call(CLASHING, (0,), (2,)))
        self.assertEqual(least_cost(BAD, (), (0,), weights=(("cy", 8),)), 8)

    def test_errors_in_order(self):
        for call in (least_cost, cheapest_course):
            for trusted in ((), (1,), (0,), (-1, 9), (1, 4)):
                for priced in ((), (2, 3), (2, 7, 0), (SIXTY,), (-2,)):
                    wrong = [at for at in (*trusted, *priced) if at not in (1, 2, 3)]
                    if wrong:
                        found = outcome(call, TWO, trusted, priced, weights=(("eve", 2),))
                        self.assertEqual(found, ("NotAReport", (("position", wrong[0]),)))

    def test_arguments_by_name(self):
        self.assertEqual(least_cost(weights=(("dot", 3),), priced=(2, 3), trusted=(1,), history=TWO), 4)
        with self.assertRaises(TypeError):
            least_cost(TWO, (1,), (2, 3), ())


class CheapestCourseTest(unittest.TestCase):
    def test_example(self):
        self.assertIsNone(cheapest_course(BAD, (0,), ()))

    def test_courses_have_the_least_cost(self):
        for history, trusted, priced, weights in priced_cases(500):
            course = cheapest_course(history, trusted, priced, weights=weights)
            least = least_price(history, trusted, priced, weights)
            if course is None:
                self.assertIsNone(least)
            else:
                self.assertTrue(is_course(history, trusted, course))
                lets_course(history, trusted, course)
                self.assertEqual(slow_cost(history, priced, course, weights), least)

    def test_large_histories(self):
        for seed in range(60):
            history = random_history(seed, 7, 14, 0.2, ("mix", "look", "look", "pour"))
            reports = reports_in(history)
            weights = random_weights(random.Random(seed))
            course = cheapest_course(history, (), reports, weights=weights)
            lets_course(history, (), course)
            least = least_cost(history, (), reports, weights=weights)
            self.assertEqual(slow_cost(history, reports, course, weights), least)

    def test_arguments_by_name(self):
        course = cheapest_course(weights=(), priced=(2, 3), trusted=(2,), history=HISTORY)
        self.assertEqual(lets_course(HISTORY, (2,), course), 5)
        with self.assertRaises(TypeError):
            cheapest_course(TWO, (1,), (2, 3), ())


if __name__ == "__main__":
    unittest.main()
