import random
import unittest

from mixedbags.costs import least_cost
from mixedbags.partchecker import lets_part
from mixedbags.partpapers import part_paper
from mixedbags.parts import part_factor, part_of
from mixedbags.wrongs import wrong_reports
from tests import costly
from tests.support import (
    BAD, CLASHING, EMPTY, HISTORY, PERSONS, SIXTY, TWO, is_course, outcome, random_history, reports_in, same, telling_cases,
)
from tests.test_costs import priced_cases, random_weights
from tests.test_costpapers import wrong_positions


def slow_part(history, trusted, priced, weights, person):
    """The smallest part of the person in a cheapest course, by the search through all courses, or None."""
    found = costly.cheapest_misses(history, trusted, priced, weights)
    if found is None:
        return None
    return min(costly.part_of_misses(history, priced, weights, person, row) for row in found[1])


class PartFactorTest(unittest.TestCase):
    def test_example(self):
        self.assertTrue(same(part_factor(TWO, (1, 2, 3), "eve"), 3))

    def test_against_the_definition(self):
        seen = set()
        for history, _, priced, weights in priced_cases(300):
            for person in (*PERSONS, "zed"):
                found = part_factor(history, priced, person, weights=weights)
                self.assertTrue(same(found, costly.slow_factor(history, priced, weights, person)))
                seen.add(found)
        self.assertGreater(len(seen), 20)

    def test_persons_and_weights(self):
        for person, weights, expected in (("cy", (), 2), ("cy", (("cy", 9),), 10), ("eve", (("eve", 4),), 9), ("ann", (), 1),
                                          ("nobody", (("nobody", 9),), 1), ("dot", (("cy", 5),), 2)):
            self.assertEqual(part_factor(TWO, (1, 2, 3), person, weights=weights), expected)
        self.assertEqual(part_factor(TWO, (1, 2), "eve"), 1)
        self.assertEqual(part_factor(TWO, (), "cy"), 1)

    def test_errors(self):
        for position in (0, 4, -1, SIXTY):
            found = outcome(part_factor, TWO, (1, position, 9), "cy")
            self.assertEqual(found, ("NotAReport", (("position", position),)))

    def test_arguments_by_name(self):
        self.assertEqual(part_factor(weights=(), person="eve", priced=(1, 2, 3), history=TWO), 3)
        with self.assertRaises(TypeError):
            part_factor(TWO, (1, 2, 3), "eve", ())


class PartOfTest(unittest.TestCase):
    def test_example(self):
        self.assertTrue(same(part_of(TWO, (), (1, 2, 3), "eve"), 1))

    def test_against_all_courses(self):
        seen = {}
        for history, trusted, priced, weights in priced_cases(400):
            for person in (*PERSONS, "zed"):
                found = part_of(history, trusted, priced, person, weights=weights)
                self.assertTrue(same(found, slow_part(history, trusted, priced, weights, person)))
                seen[found] = seen.get(found, 0) + 1
        self.assertTrue({None, 0, 1, 2, 3, 5, 8} <= {key for key in seen if seen[key] > 2})

    def test_the_smallest_part_and_not_another_one(self):
        # Either cy or dot is wrong, at the same cost.
        self.assertEqual([part_of(TWO, (), (1, 2), person) for person in ("cy", "dot", "eve", "ann")], [0, 0, 0, 0])
        weights = (("cy", 2), ("dot", 2))
        self.assertEqual([part_of(TWO, (), (1, 2), person, weights=weights) for person in ("cy", "dot")], [0, 0])
        self.assertEqual([part_of(TWO, (), (1, 2), person, weights=(("cy", 2),)) for person in ("cy", "dot")], [0, 1])
        self.assertEqual([part_of(TWO, (), (1, 2), person, weights=(("dot", 9),)) for person in ("cy", "dot")], [1, 0])

    def test_a_cheapest_course_comes_before_a_smaller_part(self):
        # All of cy's reports can be right, but then dot's weigh more than they do.
        names = tuple("abc")
        history = (tuple((name, None) for name in names), (("pour", "cy", names, 3), ("pour", "dot", names, 0)))
        for weights, parts in (((), (0, 0)), ((("dot", 2),), (3, 0)), ((("cy", 9), ("dot", 8)), (0, 24))):
            self.assertEqual(tuple(part_of(history, (), (0, 1), person, weights=weights) for person in ("cy", "dot")), parts)

    def test_consequences(self):
        for history, trusted, priced, weights in priced_cases(200):
            least = least_cost(history, trusted, priced, weights=weights)
            parts = {person: part_of(history, trusted, priced, person, weights=weights) for person in PERSONS}
            if least is None:
                self.assertEqual(set(parts.values()), {None})
                continue
            self.assertLessEqual(sum(parts.values()), least)
            for at in wrong_reports(history, trusted, priced, weights=weights):
                self.assertGreaterEqual(parts[history[1][at][1]], costly.weight_of(history, at, weights))

    def test_persons_without_priced_reports(self):
        for person in ("ann", "zed", "nobody"):
            self.assertTrue(same(part_of(TWO, (), (1, 2, 3), person, weights=(("nobody", 4),)), 0))
        self.assertEqual(part_of(TWO, (), (), "eve"), 0)
        self.assertEqual(part_of(TWO, (1,), (2,), "eve"), 0)

    def test_without_a_course(self):
        for history, trusted in ((BAD, (0,)), (EMPTY, (1,)), (TWO, (1, 2)), (CLASHING, (0,))):
            for person in ("cy", "zed"):
                self.assertIsNone(part_of(history, trusted, (), person))
                priced = tuple(at for at in reports_in(history) if at not in trusted)
                self.assertIsNone(part_of(history, trusted, priced, person, weights=(("cy", 3),)))
        self.assertEqual(part_of(BAD, (), (0,), "cy", weights=(("cy", 9),)), 9)

    def test_errors(self):
        self.assertTrue(all(wrong_positions(part_of, "cy")))

    def test_arguments_by_name(self):
        self.assertEqual(part_of(weights=(), person="eve", priced=(1, 2, 3), trusted=(), history=TWO), 1)
        with self.assertRaises(TypeError):
            part_of(TWO, (), (1, 2, 3), "eve", ())


class PartPaperTest(unittest.TestCase):
    def part(self, history, trusted, priced, person, weights=()):
        """The part of a paper that the checker and the oracle accept, or None."""
        paper = part_paper(history, trusted, priced, person, weights=weights)
        if paper is None:
            return None
        rates = costly.slow_rates(history, priced, weights, person)
        self.assertIsNone(costly.rated_reason(history, trusted, rates, paper))
        self.assertTrue(is_course(history, trusted, paper[0]))
        cost = costly.slow_rated_cost(history, costly.slow_rates(history, priced, weights), paper[0])
        self.assertEqual(cost, least_cost(history, trusted, priced, weights=weights))
        return lets_part(history, trusted, priced, person, paper, weights=weights)

    def test_papers_show_the_smallest_part(self):
        for history, trusted, priced, weights in priced_cases(300):
            for person in ("ann", "cy", "eve", "zed"):
                found = self.part(history, trusted, priced, person, weights)
                self.assertTrue(same(found, slow_part(history, trusted, priced, weights, person)))

    def test_without_weights(self):
        for history, trusted, _, _ in telling_cases(100):
            priced = tuple(at for at in reports_in(history) if at not in trusted)
            for person in PERSONS:
                self.assertEqual(self.part(history, trusted, priced, person), slow_part(history, trusted, priced, (), person))

    def test_great_histories(self):
        greatest = 0
        for seed in range(60):
            history = random_history(seed, 7, 14, 0.2, ("mix", "look", "pour", "pour"))
            reports = reports_in(history)
            weights = random_weights(random.Random(seed)) if seed % 2 else tuple((person, 9) for person in PERSONS)
            for trusted in ((), reports[:1]):
                for priced in (reports[len(trusted):], reports[len(trusted):7]):
                    for person in ("ann", "dot"):
                        found = self.part(history, trusted, priced, person, weights)
                        self.assertEqual(found, part_of(history, trusted, priced, person, weights=weights))
                        greatest = max(greatest, found or 0)
        self.assertGreater(greatest, 40)

    def test_without_a_course(self):
        for history, trusted in ((BAD, (0,)), (EMPTY, (1,)), (TWO, (1, 2))):
            self.assertIsNone(part_paper(history, trusted, (), "cy"))

    def test_edges(self):
        self.assertEqual(part_paper(((("a", None),), ()), (), (), "cy")[1], ())
        self.assertEqual(self.part(((("a", None),), ()), (), (), "cy"), 0)
        self.assertEqual(self.part(HISTORY, (), (2, 3), "cy", (("cy", 9),)), 0)
        self.assertEqual(self.part(BAD, (), (0,), "cy", (("cy", 9),)), 9)

    def test_errors(self):
        self.assertTrue(all(wrong_positions(part_paper, "cy")))

    def test_arguments_by_name(self):
        paper = part_paper(weights=(), person="eve", priced=(1, 2, 3), trusted=(), history=TWO)
        self.assertEqual(lets_part(TWO, (), (1, 2, 3), "eve", paper), 1)
        with self.assertRaises(TypeError):
            part_paper(TWO, (), (1, 2, 3), "eve", ())


if __name__ == "__main__":
    unittest.main()
