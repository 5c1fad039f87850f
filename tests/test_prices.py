import copy
import random
import unittest

from mixedbags.prices import are_level, are_prices, lower_bound, upper_bound
from tests import oracles
from tests.support import (
    HISTORY, ODD_VALUES, SIXTY, cases, changed, possible_masks, question_errors, random_course, random_history,
    random_level_prices, random_question, random_trusted, range_at, same, zero_prices,
)

PRICES = ((1, 1), (0, 0), (0, 0), (2, -1))
ZERO = ((0, 0), (0, 0), (0, 0), (0, 0))
LEVEL = ((1, 1), (0, 0), (0, 0), (0, 0))
ALL_KINDS = (
    (("a", 0), ("b", None), ("c", 1)),
    (("mix", "ann", ("a", "b", "c")), ("new", "a", 1), ("look", "cy", "b", 1), ("pour", "ann", ("a",), 0),
     ("pour", "ann", ("a", "b", "c"), 0)),
)


class PricesTest(unittest.TestCase):
    def test_examples(self):
        self.assertIs(are_prices(HISTORY, PRICES), True)
        self.assertIs(are_level(HISTORY, PRICES), True)
        self.assertIs(are_prices(HISTORY, ((1, 1),)), False)

    def test_prices_of_all_kinds_of_events(self):
        good = ((1, 2, -3), None, None, (SIXTY, -SIXTY), (0, 0))
        self.assertIs(are_prices(ALL_KINDS, good), True)
        entries = {
            0: ((1, 2), (1, 2, 3, 4), (), None, [1, 2, 3], (1, 2, True), (1, 2, None), 1, ((1, 2), 3, 4), "abc"),
            1: ((), (0,), 0, False, "", (0, 0), [None]),
            2: ((), (0,), 0, False, "", (0, 0)),
            3: ((1,), (), None, (1, 2, 3), [1, 2], (True, 0), (0, False), ("1", 0), 0),
            4: ((0, 0, 0), (0,), None, (None, None)),
        }
        for at, rows in entries.items():
            for entry in rows:
                self.assertIs(are_prices(ALL_KINDS, good[:at] + (entry,) + good[at + 1:]), False, (at, entry))
        for thing in (list(good), good[:4], good + (None,), good[1:], good + ((0, 0),)):
            self.assertIs(are_prices(ALL_KINDS, thing), False)
        for thing in ODD_VALUES:
            self.assertIs(are_prices(ALL_KINDS, thing), False)

    def test_without_events(self):
        history = ((("a", 1), ("b", None)), ())
        self.assertIs(are_prices(history, ()), True)
        self.assertIs(are_level(history, ()), True)
        for thing in ([], None, (None,), ((),), "", 0, False):
            self.assertIs(are_prices(history, thing), False)
        self.assertEqual(lower_bound(history, (), 0, ("a", "b"), ()), 1)
        self.assertEqual(upper_bound(history, (), 0, ("a", "b"), ()), 2)
        self.assertEqual(lower_bound(history, (), 0, (), ()), 0)

    def test_level(self):
        self.assertIs(are_level(HISTORY, ((1, 1), (0, 1), (0, 0), (0, 0))), False)
        self.assertIs(are_level(HISTORY, ((SIXTY, SIXTY), (-1, -1), (0, 7), (7, 0))), True)
        self.assertIs(are_level(ALL_KINDS, ((1, 1, 2), None, None, (0, 1), (1, 0))), False)
        self.assertIs(are_level(ALL_KINDS, ((2, 1, 2), None, None, (0, 0), (0, 0))), False)
        self.assertIs(are_level(ALL_KINDS, ((2, 2, 2), None, None, (0, 1), (1, 0))), True)

    def test_changed_prices_against_the_oracle(self):
        chance = random.Random(7)
        for seed in range(2000):
            history = random_history(seed, chance.randint(1, 7), chance.randint(0, 10))
            thing = changed(chance, random_level_prices(chance, history), chance.choice((0, 1, 2)))
            before = copy.deepcopy(thing)
            self.assertIs(are_prices(history, thing), oracles.are_prices(history, thing), thing)
            self.assertTrue(same(thing, before))
            if oracles.are_prices(history, thing):
                self.assertIs(are_level(history, thing), oracles.are_level(history, thing))

    def test_arguments_by_name(self):
        self.assertIs(are_prices(thing=PRICES, history=HISTORY), True)
        self.assertIs(are_level(prices=PRICES, history=HISTORY), True)


class BoundsTest(unittest.TestCase):
    def test_examples(self):
        self.assertEqual(upper_bound(HISTORY, (), 2, ("a", "b"), ZERO), 2)
        self.assertEqual(lower_bound(HISTORY, (), 2, ("a", "b"), LEVEL), 1)
        self.assertEqual(upper_bound(HISTORY, (), 2, ("a", "b"), LEVEL), 1)

    def test_against_the_definitions(self):
        chance = random.Random(8)
        for seed in range(800):
            history = random_history(seed, chance.randint(1, 7), chance.randint(0, 14))
            trusted = random_trusted(seed, history)
            moment, places = random_question(chance, history)
            prices = random_level_prices(chance, history, chance.choice((1, 3, SIXTY)))
            for function, is_upper in ((upper_bound, True), (lower_bound, False)):
                bound = function(history, trusted, moment, places, prices)
                slow = oracles.slow_bound(history, trusted, moment, places, prices, is_upper)
                self.assertTrue(same(bound, slow))

    def test_no_course_is_beyond_a_bound(self):
        chance = random.Random(9)
        for history, trusted in cases(150):
            possible = possible_masks(history, trusted)
            for _ in range(10):
                moment, places = random_question(chance, history)
                prices = random_level_prices(chance, history)
                found = range_at(history, possible[moment], places)
                if found is not None:
                    self.assertLessEqual(lower_bound(history, trusted, moment, places, prices), found[0])
                    self.assertGreaterEqual(upper_bound(history, trusted, moment, places, prices), found[1])

    def test_the_shares_of_a_course_sum_up_to_nothing(self):
        # With the marks of all stretches and the numbers of all pours known, both bounds are the number.
        chance = random.Random(10)
        for seed in range(150):
            history = random_history(seed, chance.randint(1, 5), chance.randint(0, 8))
            course = random_course(seed, history, ())
            if course is not None:
                told = self.told(history, course)
                prices = random_level_prices(chance, told, SIXTY)
                trusted = tuple(at for at, event in enumerate(told[1]) if event[0] in ("look", "pour"))
                moment, places = random_question(chance, told)
                low = lower_bound(told, trusted, moment, places, prices)
                self.assertEqual(low, upper_bound(told, trusted, moment, places, prices))

    def told(self, history, course):
        names = [name for name, _ in history[0]]
        events = []
        for at, state in enumerate(course):
            events += [("look", "eve", name, int(name in state)) for name in names]
            if at < len(history[1]):
                event = history[1][at]
                if event[0] == "pour":
                    event = event[:3] + (len(set(event[2]) & set(state)),)
                if event[0] != "look":
                    events.append(event)
        return history[0], tuple(events)

    def test_all_prices_zero(self):
        chance = random.Random(11)
        for history, trusted in cases(150):
            moment, places = random_question(chance, history)
            marks = {s: oracles.slow_marks(history, trusted, s) for s in oracles.slow_stretches(history)}
            counted = [s for s in marks if s[0] in places and s[1] < moment <= s[2]]
            prices = zero_prices(history)
            if () in marks.values():
                self.assertIsNone(upper_bound(history, trusted, moment, places, prices))
                self.assertIsNone(lower_bound(history, trusted, moment, places, prices))
            else:
                self.assertEqual(upper_bound(history, trusted, moment, places, prices), sum(1 in marks[s] for s in counted))
                self.assertEqual(lower_bound(history, trusted, moment, places, prices),
                                 sum(0 not in marks[s] for s in counted))

    def test_a_stretch_without_an_allowed_mark(self):
        history = ((("a", 1), ("b", 0)), (("look", "cy", "a", 0), ("mix", "ann", ("a", "b"))))
        self.assertIsNone(upper_bound(history, (0,), 2, ("b",), (None, (0, 0))))
        self.assertIsNone(lower_bound(history, (0,), 0, (), (None, (5, 5))))
        self.assertEqual(lower_bound(history, (), 0, (), (None, (5, 5))), -5)

    def test_pours_with_and_without_trust(self):
        history = ((("a", None), ("b", None)), (("pour", "cy", ("a", "b"), 1),))
        prices = ((0, 5),)
        self.assertEqual(upper_bound(history, (), 0, (), prices), 10)
        self.assertEqual(lower_bound(history, (), 0, (), prices), -10)
        self.assertEqual(upper_bound(history, (0,), 0, (), prices), 5)
        self.assertEqual(lower_bound(history, (0,), 0, (), prices), -5)

    def test_errors_in_order(self):
        for function in (upper_bound, lower_bound):
            for found, expected in question_errors(lambda t, m, p: function(HISTORY, t, m, p, ZERO), HISTORY):
                self.assertEqual(found, expected)
            clash = ((("a", 1),), (("look", "cy", "a", 0),))
            for found, expected in question_errors(lambda t, m, p: function(clash, t, m, p, (None,)), clash):
                self.assertEqual(found, expected)

    def test_arguments_by_name(self):
        for function in (upper_bound, lower_bound):
            self.assertEqual(function(prices=LEVEL, places=("a", "b"), moment=2, trusted=(), history=HISTORY), 1)


if __name__ == "__main__":
    unittest.main()
