import random
import unittest

from mixedbags.settling import fewest_looks, is_settled
from tests import last_oracles
from tests.support import (
    BAD, CLASHING, EMPTY, HISTORY, RING, SIXTY, TWO, cases, gap_cases, names_of, outcome, possible_masks, random_history,
    random_places, random_trusted, reports_in, same, states_in,
)

NAMES = tuple("abcdefg")
FREE = (tuple((name, None) for name in NAMES), ())


def random_statement(chance, history):
    """Places, none, all or some, and low and high, also below and above what the places can have."""
    names = names_of(history)
    places = chance.choice(((), names, random_places(chance, names, 1), random_places(chance, names, 1)))
    low = chance.choice((-SIXTY, -1, 0, 1, 1, 2, len(places), len(places) + 2))
    return places, low, max(low, chance.choice((-1, 0, 1, 1, 2, len(places), len(places) + 2, SIXTY)))


def settling_cases(count, most_places=4, most_events=6):
    """Histories with trusted reports and a statement."""
    chance = random.Random(69)
    for history, trusted in cases(count, most_places, most_events):
        yield (history, trusted, *random_statement(chance, history))
    for history, trusted, _, _ in gap_cases(count // 4, most_places):
        yield (history, trusted, *random_statement(chance, history))


def last_of(history, trusted):
    return states_in(history, possible_masks(history, trusted)[-1])


def truths(history, trusted, places, low, high):
    return {low <= len(set(state) & set(places)) <= high for state in last_of(history, trusted)}


def statement_errors(call, history):
    """Pairs of what a function of a statement does and has to do with wrong places and positions."""
    for places in ((), ("a",), ("a", "h"), ("aa", "h"), ("z",)):
        for trusted in ((), reports_in(history), (-1,), (0, 9), (SIXTY,), (True,)):
            names = [name for name in places if name not in names_of(history)]
            wrong = [at for at in trusted if type(at) is bool or at not in reports_in(history)]
            if names:
                yield outcome(call, history, trusted, places), ("UnknownName", (("name", names[0]),))
            elif wrong:
                yield outcome(call, history, trusted, places), ("NotAReport", (("position", wrong[0]),))


class IsSettledTest(unittest.TestCase):
    def test_example(self):
        self.assertIs(is_settled(HISTORY, (2, 3), ("a", "d"), 1, 1), True)

    def test_against_all_states(self):
        seen = {}
        for history, trusted, places, low, high in settling_cases(500, 5, 8):
            found = truths(history, trusted, places, low, high)
            self.assertIs(is_settled(history, trusted, places, low, high), len(found) < 2)
            seen[tuple(sorted(found))] = seen.get(tuple(sorted(found)), 0) + 1
        self.assertTrue(all(seen[key] > 20 for key in ((), (False,), (True,), (False, True))))

    def test_edges(self):
        for low, high, expected in ((-1, 0, False), (0, 2, True), (0, 1, False), (3, 9, True), (-SIXTY, -1, True),
                                    (-SIXTY, SIXTY, True), (1, SIXTY, False), (2, 2, False), (1, 1, False)):
            self.assertIs(is_settled(HISTORY, (2, 3), ("a", "b"), low, high), expected)
        self.assertIs(is_settled(HISTORY, (), (), 0, 0), True)
        self.assertIs(is_settled(HISTORY, (), (), 1, 1), True)

    def test_without_a_course(self):
        for history, trusted in ((BAD, (0,)), (EMPTY, (1,)), (CLASHING, (0,)), (TWO, (1, 2))):
            for places in ((), ("a",)):
                self.assertIs(is_settled(history, trusted, places, 0, 0), True)
                self.assertEqual(fewest_looks(history, trusted, places, 1, 1), 0)

    def test_errors(self):
        for call in (is_settled, fewest_looks):
            errors = list(statement_errors(lambda h, t, p: call(h, t, p, 0, 1), HISTORY))
            self.assertGreater(len(errors), 15)
            for found, expected in errors:
                self.assertTrue(same(found, expected))

    def test_arguments_by_name(self):
        self.assertIs(is_settled(high=1, low=1, places=("a", "d"), trusted=(2, 3), history=HISTORY), True)


class FewestLooksTest(unittest.TestCase):
    def test_example(self):
        self.assertTrue(same(fewest_looks(HISTORY, (2, 3), ("a", "b"), 2, 2), 2))

    def test_against_all_trees(self):
        seen = {}
        for history, trusted, places, low, high in settling_cases(800):
            found = fewest_looks(history, trusted, places, low, high)
            states = last_of(history, trusted)
            expected = last_oracles.slow_fewest(states, names_of(history), places, low, high)
            self.assertTrue(same(found, expected))
            self.assertIs(found == 0, is_settled(history, trusted, places, low, high))
            self.assertLessEqual(found, len(history[0]))
            seen[found] = seen.get(found, 0) + 1
        self.assertTrue(all(seen[looks] > 5 for looks in range(5)))

    def test_other_places_can_tell(self):
        # A look at d tells the mark of a, and the two marks of b and c.
        start = tuple(zip("abcd", (1, 1, None, 0)))
        history = (start, (("mix", "ann", ("a", "d")),))
        self.assertEqual(fewest_looks(history, (), ("a",), 1, 1), 1)
        self.assertEqual(fewest_looks(history, (), ("a", "d"), 1, 1), 0)
        self.assertEqual(fewest_looks(history, (), ("a", "b", "c"), 2, 2), 2)
        self.assertEqual(fewest_looks(RING, (3, 4, 5), ("a", "c", "e"), 2, 3),
                         last_oracles.slow_fewest(last_of(RING, (3, 4, 5)), tuple("abcdef"), ("a", "c", "e"), 2, 3))

    def test_seven_places_without_events(self):
        for places, low, high, expected in ((NAMES, 3, 4, 7), (NAMES, 0, 7, 0), (NAMES, 1, 7, 7), (NAMES, 0, 0, 7), (NAMES, 7, 7, 7),
                                            (("a",), 1, 1, 1), (("a", "c", "g"), 2, 3, 3), ((), 0, 0, 0), (NAMES, 8, SIXTY, 0)):
            self.assertEqual(fewest_looks(FREE, (), places, low, high), expected)

    def test_great_histories(self):
        for seed in range(30):
            history = random_history(seed, 7, 14)
            trusted = random_trusted(seed, history)
            places, low, high = random_statement(random.Random(seed), history)
            found = fewest_looks(history, trusted, places, low, high)
            states = last_of(history, trusted)
            self.assertEqual(found, last_oracles.slow_fewest(states, names_of(history), places, low, high))

    def test_arguments_by_name(self):
        self.assertEqual(fewest_looks(high=2, low=2, places=("a", "b"), trusted=(2, 3), history=HISTORY), 2)


if __name__ == "__main__":
    unittest.main()
