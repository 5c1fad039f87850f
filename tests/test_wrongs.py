import random
import unittest

from mixedbags.costs import least_cost
from mixedbags.wrongs import wrong_reports
from tests import costly
from tests.support import (
    BAD, CLASHING, EIGHT, EMPTY, HISTORY, PERSONS, TWO, outcome, random_history, reports_in, same, telling_cases,
)
from tests.test_costpapers import wrong_positions
from tests.test_costs import priced_cases, random_weights


def slow_wrongs(history, trusted, priced, weights):
    """The priced reports that are wrong in every cheapest course, by the search through all courses, or None."""
    found = costly.cheapest_misses(history, trusted, priced, weights)
    if found is None:
        return None
    return tuple(at for k, at in enumerate(priced) if all(row[k] > 0 for row in found[1]))


class WrongReportsTest(unittest.TestCase):
    def test_example(self):
        self.assertTrue(same(wrong_reports(TWO, (), (1, 2, 3), weights=(("dot", 3),)), (1, 3)))

    def test_against_all_courses(self):
        seen = {}
        for history, trusted, priced, weights in priced_cases(400):
            found = wrong_reports(history, trusted, priced, weights=weights)
            self.assertTrue(same(found, slow_wrongs(history, trusted, priced, weights)))
            kind = found if found is None else len(found)
            seen[kind] = seen.get(kind, 0) + 1
        self.assertTrue({None, 0, 1, 2, 3} <= {kind for kind in seen if seen[kind] > 1})

    def test_without_weights(self):
        for history, trusted, _, _ in telling_cases(150):
            priced = tuple(at for at in reports_in(history) if at not in trusted)
            self.assertEqual(wrong_reports(history, trusted, priced), slow_wrongs(history, trusted, priced, ()))

    def test_wrong_in_one_cheapest_course_but_not_in_every_one(self):
        self.assertEqual(wrong_reports(TWO, (), (1, 2)), ())
        self.assertEqual(wrong_reports(TWO, (), (1, 2, 3)), (3,))
        for weights, expected in (((("cy", 2),), (2, 3)), ((("dot", 2),), (1, 3)), ((("cy", 9), ("dot", 9)), (3,))):
            self.assertEqual(wrong_reports(TWO, (), (1, 2, 3), weights=weights), expected)
        self.assertEqual(wrong_reports(HISTORY, (), (2, 3)), ())

    def test_trusted_reports(self):
        self.assertEqual(wrong_reports(TWO, (1,), (2, 3)), (2, 3))
        self.assertEqual(wrong_reports(TWO, (2,), (1,)), (1,))
        self.assertEqual(wrong_reports(EIGHT, (0,), tuple(range(1, 8))), ())

    def test_a_pour_that_is_off_by_several_marks(self):
        names = tuple("abcd")
        history = (tuple((name, 1) for name in names), (("pour", "cy", names, 1), ("pour", "dot", names, 4)))
        self.assertEqual(wrong_reports(history, (), (0, 1), weights=(("cy", 9),)), (0,))
        free = (tuple((name, None) for name in names), history[1])
        self.assertEqual(wrong_reports(free, (), (0, 1)), ())
        self.assertEqual(wrong_reports(free, (), (0, 1), weights=(("cy", 2),)), (1,))

    def test_nothing_priced(self):
        for history, trusted in ((TWO, ()), (TWO, (1,)), (HISTORY, (2, 3)), (((("a", None),), ()), ())):
            self.assertTrue(same(wrong_reports(history, trusted, ()), ()))

    def test_without_a_course(self):
        for history, trusted in ((BAD, (0,)), (EMPTY, (1,)), (TWO, (1, 2)), (CLASHING, (0,))):
            self.assertIsNone(wrong_reports(history, trusted, ()))
            priced = tuple(at for at in reports_in(history) if at not in trusted)
            self.assertIsNone(wrong_reports(history, trusted, priced, weights=(("cy", 3),)))
        self.assertEqual(wrong_reports(BAD, (), (0,)), (0,))

    def test_great_histories(self):
        wrong = 0
        for seed in range(60):
            history = random_history(seed, 7, 14, 0.2, ("mix", "look", "look", "pour"))
            priced = reports_in(history)[:7]
            weights = random_weights(random.Random(seed)) if seed % 2 else tuple((person, 9) for person in PERSONS)
            found = wrong_reports(history, (), priced, weights=weights)
            least = least_cost(history, (), priced, weights=weights)
            for at in priced:
                stricter = least_cost(history, (at,), tuple(set(priced) - {at}), weights=weights)
                self.assertIs(at in found, stricter is None or stricter > least)
            wrong += len(found)
        self.assertGreater(wrong, 20)

    def test_errors(self):
        self.assertTrue(all(wrong_positions(wrong_reports)))
        found = outcome(wrong_reports, BAD, (0,), (3,))
        self.assertEqual(found, ("NotAReport", (("position", 3),)))

    def test_arguments_by_name(self):
        found = wrong_reports(weights=(("dot", 3),), priced=(1, 2, 3), trusted=(), history=TWO)
        self.assertEqual(found, (1, 3))
        with self.assertRaises(TypeError):
            wrong_reports(TWO, (), (1, 2, 3), ())


if __name__ == "__main__":
    unittest.main()
