import random
import unittest

from mixedbags.settlechecker import lets_answers, lets_plan
from mixedbags.settlepapers import answer_paper, plan_paper
from mixedbags.settling import fewest_looks
from tests import last_oracles
from tests.support import BAD, CLASHING, EMPTY, HISTORY, SIXTY, TWO, cases, gap_cases, random_history, random_trusted, same
from tests.test_settling import FREE, NAMES, last_of, random_statement, settling_cases, statement_errors


def leaves_of(plan):
    return leaves_of(plan[2]) + leaves_of(plan[3]) if plan[0] == "look" else [plan]


def followed(plan, state):
    """The word of the leaf to which the looks at a state lead."""
    while plan[0] == "look":
        plan = plan[3] if plan[1] in state else plan[2]
    return plan[0]


class PlanPaperTest(unittest.TestCase):
    def plan(self, history, trusted, places, low, high):
        """A plan that the checker and the oracle accept, and that is right for every possible state."""
        plan = plan_paper(history, trusted, places, low, high)
        self.assertIsNone(last_oracles.plan_reason(history, trusted, places, low, high, plan))
        depth = lets_plan(history, trusted, places, low, high, plan)
        self.assertTrue(same(depth, fewest_looks(history, trusted, places, low, high)))
        self.assertEqual(depth, last_oracles.plan_depth(plan))
        for state in last_of(history, trusted):
            number = len(set(state) & set(places))
            word = "less" if number < low else "greater" if number > high else "yes"
            self.assertEqual(followed(plan, state), word)
        return plan

    def test_plans_are_followed(self):
        words = {}
        for asked in settling_cases(500):
            for leaf in leaves_of(self.plan(*asked)):
                words[leaf[0]] = words.get(leaf[0], 0) + 1
        self.assertTrue(all(words[word] > 10 for word in ("yes", "less", "greater", "never", "clash")))

    def test_larger_histories(self):
        chance = random.Random(71)
        for history, trusted in cases(80, 6, 12):
            self.plan(history, trusted, *random_statement(chance, history))
        for history, trusted, _, _ in gap_cases(60, 6):
            self.plan(history, trusted, *random_statement(chance, history))

    def test_great_histories(self):
        for seed in range(12):
            history = random_history(seed, 7, 14)
            self.plan(history, random_trusted(seed, history), *random_statement(random.Random(seed), history))

    def test_seven_places_without_events(self):
        self.assertEqual(last_oracles.plan_depth(self.plan(FREE, (), NAMES, 3, 4)), 7)
        self.assertEqual(last_oracles.plan_depth(self.plan(FREE, (), NAMES, 1, SIXTY)), 7)
        self.assertEqual(self.plan(FREE, (), NAMES, -SIXTY, SIXTY)[0], "yes")
        self.assertEqual(self.plan(FREE, (), NAMES, 8, SIXTY)[0], "less")
        self.assertEqual(self.plan(FREE, (), NAMES, -SIXTY, -1)[0], "greater")

    def test_without_a_course(self):
        for history, trusted, word in ((BAD, (0,), "clash"), (EMPTY, (1,), "never"), (CLASHING, (0,), "clash"), (TWO, (1, 2), "clash")):
            for low, high in ((0, 0), (1, 1), (-1, 9)):
                self.assertEqual(self.plan(history, trusted, ("a",), low, high)[0], word)

    def test_an_answer_that_never_comes(self):
        # One of a and b is marked, so that a look at one tells the other one.
        history = ((("a", 1), ("b", 0), ("c", None)), (("mix", "ann", ("a", "b")),))
        self.assertEqual(last_oracles.plan_depth(self.plan(history, (), ("b",), 0, 0)), 1)
        self.assertEqual(last_oracles.plan_depth(self.plan(history, (), ("a", "c"), 2, 2)), 2)

    def test_errors(self):
        for call in (plan_paper, lambda *asked: answer_paper(*asked, 0)):
            for found, expected in statement_errors(lambda h, t, p: call(h, t, p, 0, 1), HISTORY):
                self.assertTrue(same(found, expected))

    def test_arguments_by_name(self):
        plan = plan_paper(high=2, low=2, places=("a", "b"), trusted=(2, 3), history=HISTORY)
        self.assertEqual(lets_plan(HISTORY, (2, 3), ("a", "b"), 2, 2, plan), 2)


class AnswerPaperTest(unittest.TestCase):
    def check(self, history, trusted, places, low, high):
        """Check the tables of every size below the fewest looks, and return how many rows there were at most."""
        fewest = fewest_looks(history, trusted, places, low, high)
        most = 0
        for size in range(fewest):
            table = answer_paper(history, trusted, places, low, high, size)
            self.assertIsNone(last_oracles.table_reason(history, trusted, places, low, high, size, table))
            found = lets_answers(history, trusted, places, low, high, size, table)
            self.assertTrue(same(found, len(table)))
            most = max(most, found)
        for size in (fewest, fewest + 1, len(history[0]), SIXTY):
            self.assertIsNone(answer_paper(history, trusted, places, low, high, size))
        return most

    def test_every_size(self):
        rows = [self.check(*asked) for asked in settling_cases(500)]
        self.assertTrue(set(rows) >= {0, 1, 3, 4})
        self.assertGreater(max(rows), 6)

    def test_larger_histories(self):
        chance = random.Random(72)
        for history, trusted in cases(60, 6, 12):
            self.check(history, trusted, *random_statement(chance, history))

    def test_great_histories(self):
        for seed in range(6):
            history = random_history(seed, 7, 14)
            self.check(history, random_trusted(seed, history), *random_statement(random.Random(seed), history))

    def test_seven_places_without_events(self):
        self.assertGreater(self.check(FREE, (), NAMES, 3, 4), 50)
        self.assertEqual(self.check(FREE, (), (), 0, 0), 0)
        self.assertEqual(self.check(FREE, (), ("g",), 0, 0), 1)

    def test_without_a_course(self):
        for history, trusted in ((BAD, (0,)), (EMPTY, (1,)), (CLASHING, (0,))):
            self.assertIsNone(answer_paper(history, trusted, ("a",), 0, 0, 0))

    def test_arguments_by_name(self):
        table = answer_paper(size=1, high=2, low=2, places=("a", "b"), trusted=(2, 3), history=HISTORY)
        self.assertEqual(lets_answers(HISTORY, (2, 3), ("a", "b"), 2, 2, 1, table), len(table))


if __name__ == "__main__":
    unittest.main()
