import random
import unittest

from mixedbags.nogap import has_no_gap_reason
from mixedbags.numbers import numbers_of
from tests.support import HISTORY, RING, SIXTY, START, cases, names_of, outcome, random_question, reports_in, subsets


class NoGapTest(unittest.TestCase):
    def test_example(self):
        self.assertIs(has_no_gap_reason(HISTORY, (2, 3), 2), False)

    def test_against_the_definition(self):
        seen = set()
        for history, trusted in cases(300):
            for moment in range(len(history[1]) + 1):
                later = range(moment, len(history[1]))
                spoils = [at for at in later if at in trusted or history[1][at][0] == "new" and None not in history[1][at]]
                self.assertIs(has_no_gap_reason(history, trusted, moment), not spoils)
                seen.add(bool(spoils))
        self.assertEqual(seen, {True, False})

    def test_it_is_a_reason(self):
        chance = random.Random(36)
        for history, trusted in cases(300):
            moment, places = random_question(chance, history)
            found = numbers_of(history, trusted, moment, places)
            if has_no_gap_reason(history, trusted, moment) and found:
                self.assertEqual(found, tuple(range(found[0], found[-1] + 1)))

    def test_the_last_moment(self):
        for history, trusted in cases(60):
            self.assertIs(has_no_gap_reason(history, trusted, len(history[1])), True)
            self.assertIs(has_no_gap_reason(history, reports_in(history), len(history[1])), True)

    def test_trusted_reports(self):
        for trusted in subsets((2, 3)):
            expected = [not [at for at in trusted if at >= moment] for moment in range(5)]
            self.assertEqual([has_no_gap_reason(HISTORY, trusted, moment) for moment in range(5)], expected)
        self.assertIs(has_no_gap_reason(RING, (), 3), True)

    def test_later_news(self):
        for mark, expected in ((None, True), (0, False), (1, False)):
            history = (START, (("mix", "ann", ("a", "b")), ("new", "c", mark), ("look", "cy", "a", 0)))
            self.assertEqual([has_no_gap_reason(history, (), at) for at in range(4)], [expected, expected, True, True])
            self.assertEqual([has_no_gap_reason(history, (2,), at) for at in range(4)], [False, False, False, True])

    def test_names_do_not_matter(self):
        history = (START, (("mix", "new", ("a", "b")), ("look", "new", "a", 1)))
        self.assertIs(has_no_gap_reason(history, (), 0), True)
        self.assertEqual(names_of(history), tuple("abcd"))

    def test_errors_in_order(self):
        self.assertEqual(outcome(has_no_gap_reason, HISTORY, (0, 9), 5), ("MomentOutOfRange", (("moment", 5),)))
        self.assertEqual(outcome(has_no_gap_reason, HISTORY, (), SIXTY), ("MomentOutOfRange", (("moment", SIXTY),)))
        self.assertEqual(outcome(has_no_gap_reason, HISTORY, (2, 9, 0), 4), ("NotAReport", (("position", 9),)))
        self.assertEqual(outcome(has_no_gap_reason, HISTORY, (0, 9), 2), ("NotAReport", (("position", 0),)))

    def test_arguments_by_name(self):
        self.assertIs(has_no_gap_reason(moment=4, trusted=(2, 3), history=HISTORY), True)


if __name__ == "__main__":
    unittest.main()
