import unittest

from mixedbags.states import future_states, past_states, possible_states
from tests.support import (
    HISTORY, SIXTY, START, all_masks, cases, future_masks, outcome, past_masks, possible_masks, random_history,
    random_trusted, reports_in, same, states_in,
)


class StatesTest(unittest.TestCase):
    def test_examples(self):
        self.assertEqual(past_states(HISTORY, (), 2), (("a", "c"), ("a", "d"), ("b", "c"), ("b", "d")))
        self.assertEqual(future_states(HISTORY, (2, 3), 2), (("a", "b"), ("a", "c"), ("b", "d"), ("c", "d")))
        self.assertEqual(possible_states(HISTORY, (2, 3), 2), (("a", "c"), ("b", "d")))

    def compare(self, history, trusted):
        past = past_masks(history, trusted)
        future = future_masks(history, trusted)
        possible = possible_masks(history, trusted)
        for moment in range(len(history[1]) + 1):
            self.assertTrue(same(past_states(history, trusted, moment), states_in(history, past[moment])))
            self.assertTrue(same(future_states(history, trusted, moment), states_in(history, future[moment])))
            self.assertTrue(same(possible_states(history, trusted, moment), states_in(history, possible[moment])))

    def test_small_histories_against_the_search(self):
        for history, trusted in cases(150):
            self.compare(history, trusted)

    def test_no_and_all_reports(self):
        for seed in range(40):
            history = random_history(seed, 1 + seed % 4, seed % 9)
            self.compare(history, ())
            self.compare(history, reports_in(history))

    def test_large_histories_against_the_search(self):
        for seed in range(3):
            history = random_history(seed, 7, 14)
            self.compare(history, random_trusted(seed, history))

    def test_contradictory_reports(self):
        history = (START, (("look", "cy", "a", 1), ("look", "dot", "a", 0)))
        self.assertEqual(past_states(history, (0, 1), 1), (("a", "c"),))
        self.assertEqual(past_states(history, (0, 1), 2), ())
        self.assertEqual(future_states(history, (0, 1), 0), ())
        self.assertEqual(len(future_states(history, (0, 1), 1)), 8)
        self.assertEqual([possible_states(history, (0, 1), moment) for moment in (0, 1, 2)], [(), (), ()])

    def test_later_reports_do_not_change_the_past(self):
        history = (START, (("mix", "ann", ("a", "b")), ("look", "cy", "b", 1)))
        self.assertEqual(past_states(history, (1,), 1), (("a", "c"), ("b", "c")))
        self.assertEqual(past_states(history, (1,), 2), (("b", "c"),))
        self.assertEqual(possible_states(history, (1,), 1), (("b", "c"),))

    def test_earlier_reports_do_not_change_the_future(self):
        history = (START, (("look", "cy", "b", 1), ("look", "cy", "c", 1)))
        self.assertEqual(len(future_states(history, (0, 1), 1)), 8)
        self.assertEqual(len(future_states(history, (0, 1), 0)), 4)

    def test_without_events(self):
        history = ((("a", 1), ("b", None)), ())
        self.assertEqual(past_states(history, (), 0), (("a",), ("a", "b")))
        self.assertEqual(future_states(history, (), 0), ((), ("a",), ("a", "b"), ("b",)))
        self.assertEqual(possible_states(history, (), 0), (("a",), ("a", "b")))

    def test_consequences(self):
        for history, trusted in cases(60, most_places=4):
            last = len(history[1])
            self.assertEqual(future_states(history, trusted, last), states_in(history, all_masks(history)))
            empty = {possible_states(history, trusted, moment) == () for moment in range(last + 1)}
            self.assertEqual(len(empty), 1)
            for moment in range(last + 1):
                for function in (past_states, future_states, possible_states):
                    more = function(history, reports_in(history), moment)
                    self.assertLessEqual(set(more), set(function(history, trusted, moment)))

    def test_errors_in_order(self):
        for function in (past_states, future_states, possible_states):
            self.assertEqual(outcome(function, HISTORY, (2,), 5), ("MomentOutOfRange", (("moment", 5),)))
            self.assertEqual(outcome(function, HISTORY, (0,), SIXTY), ("MomentOutOfRange", (("moment", SIXTY),)))
            for trusted, position in (((1, 2), 1), ((-1,), -1), ((2, 4), 4), ((3, SIXTY), SIXTY), ((-4, -1), -4)):
                expected = ("NotAReport", (("position", position),))
                for moment in (0, 2, 4):
                    self.assertEqual(outcome(function, HISTORY, trusted, moment), expected)
            self.assertEqual(outcome(function, HISTORY, (2, 3), 4)[0], "returns")

    def test_arguments_by_name(self):
        for function in (past_states, future_states, possible_states):
            self.assertEqual(function(moment=2, trusted=(2,), history=HISTORY), function(HISTORY, (2,), 2))


if __name__ == "__main__":
    unittest.main()
