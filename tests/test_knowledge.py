import random
import unittest

from mixedbags.knowledge import group_range, is_known
from tests.support import (
    HISTORY, PERSONS, SIXTY, START, cases, numbers_at, outcome, possible_masks, question_errors, random_question,
    range_at, reports_in, same, subsets,
)


class GroupRangeTest(unittest.TestCase):
    def test_example(self):
        self.assertEqual(group_range(HISTORY, ("ann", "cy"), 2, ("b", "c")), (1, 1))

    def test_against_the_search(self):
        chance = random.Random(22)
        for history, _ in cases(80, most_places=4, most_events=7):
            moment, places = random_question(chance, history)
            for persons in chance.sample(list(subsets(PERSONS)), 6):
                reports = tuple(at for at in reports_in(history) if history[1][at][1] in persons)
                expected = range_at(history, possible_masks(history, reports)[moment], places)
                self.assertTrue(same(group_range(history, persons, moment, places), expected))

    def test_two_groups_together(self):
        chance = random.Random(23)
        for history, _ in cases(150):
            moment, places = random_question(chance, history)
            both = group_range(history, PERSONS, moment, places)
            for group in (PERSONS[:2], PERSONS[2:]):
                alone = group_range(history, group, moment, places)
                if both is not None:
                    self.assertTrue(alone[0] <= both[0] <= both[1] <= alone[1])

    def test_persons_without_a_report(self):
        self.assertEqual(group_range(HISTORY, (), 2, ("b", "c")), (0, 2))
        self.assertEqual(group_range(HISTORY, ("ann", "bob", "zed"), 2, ("b", "c")), (0, 2))

    def test_contradictory_persons(self):
        history = (START, (("look", "cy", "a", 1), ("look", "dot", "a", 0)))
        self.assertEqual(group_range(history, ("cy",), 2, ("a",)), (1, 1))
        self.assertIsNone(group_range(history, ("dot",), 2, ("a",)))
        self.assertIsNone(group_range(history, ("cy", "dot"), 2, ("a",)))

    def test_errors_in_order(self):
        moment = ("MomentOutOfRange", (("moment", 5),))
        self.assertEqual(outcome(group_range, HISTORY, ("zed",), 5, ("e",)), moment)
        self.assertEqual(outcome(group_range, HISTORY, (), 4, ("a", "e", "f")), ("UnknownName", (("name", "e"),)))
        self.assertEqual(outcome(group_range, HISTORY, ("e",), 4, ("a",))[0], "returns")

    def test_arguments_by_name(self):
        self.assertEqual(group_range(places=("b", "c"), moment=2, persons=("cy",), history=HISTORY), (1, 1))


class KnownTest(unittest.TestCase):
    def test_example(self):
        self.assertIs(is_known(HISTORY, (), 2, ("b", "c"), 1, 1), False)

    def test_against_the_search(self):
        chance = random.Random(24)
        for history, trusted in cases(150):
            moment, places = random_question(chance, history)
            numbers = numbers_at(history, possible_masks(history, trusted)[moment], places)
            for low in range(-1, len(places) + 2):
                for high in range(-1, len(places) + 2):
                    expected = all(low <= number <= high for number in numbers)
                    self.assertIs(is_known(history, trusted, moment, places, low, high), expected)

    def test_limits_far_away(self):
        for low, high, expected in ((-SIXTY, SIXTY, True), (SIXTY, -SIXTY, False), (0, SIXTY, True), (3, SIXTY, False),
                                    (-SIXTY, -1, False), (SIXTY, SIXTY, False), (0, 2, True), (2, 0, False)):
            self.assertIs(is_known(HISTORY, (), 2, ("b", "c"), low, high), expected)
        self.assertIs(is_known(HISTORY, (2,), 2, ("b", "c"), 1, 1), True)

    def test_without_a_course_everything_is_known(self):
        history = (START, (("look", "cy", "a", 1), ("look", "dot", "a", 0)))
        for low, high in ((0, 0), (5, 9), (3, -3), (SIXTY, -SIXTY)):
            self.assertIs(is_known(history, (0, 1), 2, ("a",), low, high), True)

    def test_errors_in_order(self):
        for found, expected in question_errors(lambda t, m, p: is_known(HISTORY, t, m, p, 1, 0), HISTORY):
            self.assertEqual(found, expected)

    def test_arguments_by_name(self):
        named = {"high": 2, "low": 0, "places": ("b", "c"), "moment": 2, "trusted": (), "history": HISTORY}
        self.assertIs(is_known(**named), True)


if __name__ == "__main__":
    unittest.main()
