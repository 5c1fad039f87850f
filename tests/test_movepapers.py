import random
import unittest

from mixedbags.movechecker import lets_moved
from mixedbags.movepapers import move_paper, moved_bound
from mixedbags.moves import least_moved, moved_in
from mixedbags.prices import lower_bound
from tests import oracles, paper_oracles
from tests.support import (
    BAD, CLASHING, EMPTY, ONE, PERSONS, SIXTY, TWO, cases, changed, outcome, random_course, random_history, random_level_prices,
    random_trusted, reports_in, same, telling_cases, zero_prices,
)
from tests.test_moves import SWAP, moving_cases

PRICES = ((0, -1), (-1, -2), None)


def random_prices(chance, history, size=2):
    """Prices, in general not level."""
    return tuple(
        entry if entry is None else tuple(chance.randint(-size, size) for _ in entry)
        for entry in random_level_prices(chance, history))


def replaced_pair(chance, history, trusted, paper):
    """A pair of a course and prices with one part or two parts replaced."""
    course, prices = paper
    for _ in range(chance.choice((1, 2))):
        way = chance.randrange(6)
        if way == 0:
            return changed(chance, paper, chance.choice((1, 2)))
        if way == 1:
            course = random_course(chance.random(), history, chance.choice(((), trusted))) or course
        elif way == 2:
            course = course[::-1]
        elif way == 3:
            prices = chance.choice((random_level_prices(chance, history), random_prices(chance, history, 1)))
        elif way == 4:
            prices = chance.choice((prices[1:], prices + (None,), prices[::-1]))
        else:
            prices = tuple(entry and tuple(price + 3 for price in entry) for entry in prices)
    return course, prices


class MovedBoundTest(unittest.TestCase):
    def test_example(self):
        self.assertTrue(same(moved_bound(ONE, (2,), PRICES), 2))

    def test_against_the_definition(self):
        chance = random.Random(49)
        nones = 0
        for history, trusted, _, _ in telling_cases(400):
            for prices in (random_prices(chance, history), random_prices(chance, history, 10 ** 40), zero_prices(history)):
                found = moved_bound(history, trusted, prices)
                self.assertTrue(same(found, oracles.slow_bound(history, trusted, 0, (), prices, False)))
                nones += found is None
        self.assertGreater(nones, 10)

    def test_level_prices_bound_the_question_without_places(self):
        chance = random.Random(50)
        for history, trusted in cases(150):
            prices = random_level_prices(chance, history)
            self.assertEqual(moved_bound(history, trusted, prices), lower_bound(history, trusted, 0, (), prices))

    def test_no_course_moves_less(self):
        chance = random.Random(51)
        for history, trusted, persons in moving_cases(300):
            course = random_course(chance.random(), history, trusted)
            base = random_level_prices(chance, history)
            prices = tuple(
                tuple(price + chance.randint(0, 1) for price in entry) if event[0] == "mix" and event[1] in persons else entry
                for event, entry in zip(history[1], base))
            if course is not None:
                self.assertLessEqual(moved_bound(history, trusted, prices), moved_in(history, course, persons))

    def test_trusted_reports(self):
        self.assertEqual(moved_bound(ONE, (), PRICES), 0)
        self.assertEqual(moved_bound(TWO, (), ((1, 1), None, None, (0, 1))), -3)
        self.assertEqual(moved_bound(TWO, (3,), ((1, 1), None, None, (0, 1))), -3)
        self.assertEqual(moved_bound(TWO, (), ((1, 1), None, None, (1, 0))), -1)
        self.assertEqual(moved_bound(TWO, (3,), ((1, 1), None, None, (1, 0))), 1)

    def test_great_integers(self):
        prices = ((SIXTY, -SIXTY), (-SIXTY, SIXTY), None)
        found = moved_bound(ONE, (2,), prices)
        self.assertEqual(found, oracles.slow_bound(ONE, (2,), 0, (), prices, False))
        self.assertGreater(abs(found), SIXTY // 2)

    def test_without_a_mark(self):
        self.assertIsNone(moved_bound(BAD, (0,), (None,)))
        self.assertEqual(moved_bound(BAD, (), (None,)), 0)
        self.assertIsNone(moved_bound(CLASHING, (0,), (None, (3, 4), None)))

    def test_errors(self):
        for position in (0, 1, 3, -1, SIXTY):
            found = outcome(moved_bound, ONE, (2, position, 9), PRICES)
            self.assertEqual(found, ("NotAReport", (("position", position),)))

    def test_arguments_by_name(self):
        self.assertEqual(moved_bound(prices=PRICES, trusted=(2,), history=ONE), 2)


class MovePaperTest(unittest.TestCase):
    def moved(self, history, trusted, persons):
        """The number of a paper that the checker and the oracle accept, or None."""
        paper = move_paper(history, trusted, persons)
        if paper is None:
            return None
        self.assertIsNone(paper_oracles.moved_reason(history, trusted, persons, paper))
        return lets_moved(history, trusted, persons, paper)

    def test_papers_are_accepted(self):
        for history, trusted, persons in moving_cases(500):
            for group in (persons, (), PERSONS):
                self.assertEqual(self.moved(history, trusted, group), least_moved(history, trusted, group))

    def test_large_histories(self):
        most = 0
        for seed in range(150):
            history = random_history(seed, 7, 14, 0.3, ("mix", "mix", "look", "pour"))
            for trusted in (reports_in(history)[-3:], reports_in(history)[::2], random_trusted(seed, history)):
                found = self.moved(history, trusted, PERSONS)
                self.assertEqual(found, least_moved(history, trusted, PERSONS))
                most = max(most, found or 0)
        self.assertGreater(most, 2)

    def test_edges(self):
        self.assertEqual(self.moved(SWAP, (1, 2), ("ann",)), 2)
        self.assertEqual(self.moved(SWAP, (1, 2), ("zed",)), 0)
        self.assertEqual(self.moved(SWAP, (1, 2), ()), 0)
        self.assertEqual(move_paper(((("a", None),), ()), (), ()), (((),), ()))

    def test_without_a_course(self):
        for persons in ((), ("ann",), PERSONS):
            self.assertIsNone(move_paper(EMPTY, (1,), persons))
            self.assertIsNone(move_paper(BAD, (0,), persons))

    def test_errors(self):
        for position in (0, 1, 3, -1, SIXTY):
            found = outcome(move_paper, ONE, (2, position, 9), ("ann",))
            self.assertEqual(found, ("NotAReport", (("position", position),)))

    def test_arguments_by_name(self):
        paper = move_paper(persons=("ann", "bob"), trusted=(2,), history=ONE)
        self.assertEqual(lets_moved(ONE, (2,), ("ann", "bob"), paper), 2)


if __name__ == "__main__":
    unittest.main()
