import unittest

from mixedbags.errors import MomentOutOfRange, NotAReport, UnknownName
from mixedbags.stretches import allowed_marks, stretch_at, stretches_of
from tests.oracles import slow_marks, slow_stretches
from tests.support import HISTORY, SIXTY, cases, outcome, random_history, random_trusted, same

LOOKED = (
    (("a", 1), ("b", None)),
    (("look", "cy", "a", 0), ("look", "cy", "b", 1), ("new", "a", 0), ("look", "dot", "a", 0), ("look", "cy", "a", 1),
     ("new", "b", None), ("look", "cy", "b", 0), ("pour", "cy", ("b",), 1), ("look", "cy", "b", 1)),
)


class StretchesTest(unittest.TestCase):
    def test_examples(self):
        self.assertEqual(stretches_of(HISTORY)[:4], (("a", -1, 0), ("a", 0, 3), ("a", 3, 4), ("b", -1, 0)))
        self.assertEqual(stretch_at(HISTORY, "a", 2), ("a", 0, 3))
        self.assertEqual(allowed_marks(HISTORY, (), ("a", -1, 0)), (1,))

    def test_all_stretches_of_the_example(self):
        rest = (("b", 0, 2), ("b", 2, 4), ("c", -1, 1), ("c", 1, 2), ("c", 2, 4), ("d", -1, 1), ("d", 1, 3), ("d", 3, 4))
        self.assertTrue(same(stretches_of(HISTORY)[4:], rest))

    def test_looks_end_no_stretch(self):
        expected = (("a", -1, 2), ("a", 2, 9), ("b", -1, 5), ("b", 5, 7), ("b", 7, 9))
        self.assertTrue(same(stretches_of(LOOKED), expected))

    def test_without_events(self):
        history = ((("a", 1), ("b", None)), ())
        self.assertEqual(stretches_of(history), (("a", -1, 0), ("b", -1, 0)))
        self.assertEqual(stretch_at(history, "b", 0), ("b", -1, 0))
        self.assertEqual(allowed_marks(history, (), ("a", -1, 0)), (1,))
        self.assertEqual(allowed_marks(history, (), ("b", -1, 0)), (0, 1))

    def test_stretch_at_the_edges(self):
        self.assertEqual(stretch_at(HISTORY, "a", 0), ("a", -1, 0))
        self.assertEqual(stretch_at(HISTORY, "a", 1), ("a", 0, 3))
        self.assertEqual(stretch_at(HISTORY, "a", 3), ("a", 0, 3))
        self.assertEqual(stretch_at(HISTORY, "a", 4), ("a", 3, 4))

    def test_allowed_marks(self):
        self.assertEqual(allowed_marks(LOOKED, (), ("a", -1, 2)), (1,))
        self.assertEqual(allowed_marks(LOOKED, (0,), ("a", -1, 2)), ())
        self.assertEqual(allowed_marks(LOOKED, (1,), ("a", -1, 2)), (1,))
        self.assertEqual(allowed_marks(LOOKED, (1,), ("b", -1, 5)), (1,))
        self.assertEqual(allowed_marks(LOOKED, (), ("a", 2, 9)), (0,))
        self.assertEqual(allowed_marks(LOOKED, (3,), ("a", 2, 9)), (0,))
        self.assertEqual(allowed_marks(LOOKED, (3, 4), ("a", 2, 9)), ())
        self.assertEqual(allowed_marks(LOOKED, (), ("b", 5, 7)), (0, 1))
        self.assertEqual(allowed_marks(LOOKED, (6, 7, 8), ("b", 5, 7)), (0,))
        self.assertEqual(allowed_marks(LOOKED, (6, 7, 8), ("b", 7, 9)), (1,))
        self.assertEqual(allowed_marks(LOOKED, (7,), ("b", 7, 9)), (0, 1))

    def test_random_histories(self):
        for seed in range(300):
            history = random_history(seed, 1 + seed % 7, seed % 15)
            trusted = random_trusted(seed, history)
            stretches = stretches_of(history)
            self.assertTrue(same(stretches, slow_stretches(history)))
            for stretch in stretches:
                marks = allowed_marks(history, trusted, stretch)
                self.assertTrue(same(marks, slow_marks(history, trusted, stretch)))
            for place, _ in history[0]:
                for moment in range(len(history[1]) + 1):
                    found = stretch_at(history, place, moment)
                    at_moment = [s for s in stretches if s[0] == place and s[1] < moment <= s[2]]
                    self.assertEqual([found], at_moment)

    def test_every_stretch_contains_a_moment(self):
        for history, _ in cases(100):
            for _, begin, end in stretches_of(history):
                self.assertLess(begin, end)

    def test_a_long_history(self):
        history = ((("a", None), ("b", 1)), (("mix", "ann", ("a", "b")), ("look", "bob", "a", 1)) * 50)
        self.assertEqual(len(stretches_of(history)), 102)
        self.assertEqual(stretch_at(history, "b", 100), ("b", 98, 100))
        self.assertEqual(allowed_marks(history, tuple(range(1, 100, 2)), ("a", 96, 98)), (1,))

    def test_errors(self):
        self.assertEqual(outcome(stretch_at, HISTORY, "a", 5), ("MomentOutOfRange", (("moment", 5),)))
        self.assertEqual(outcome(stretch_at, HISTORY, "e", SIXTY), ("MomentOutOfRange", (("moment", SIXTY),)))
        self.assertEqual(outcome(stretch_at, HISTORY, "e", 4), ("UnknownName", (("name", "e"),)))
        for trusted, position in (((0,), 0), ((2, 3, 4), 4), ((-1, 2), -1), ((1, 9), 1), ((2, SIXTY), SIXTY)):
            self.assertEqual(outcome(allowed_marks, HISTORY, trusted, ("a", -1, 0)),
                             ("NotAReport", (("position", position),)))
        looked = ((("a", None),), (("look", "cy", "a", 1), ("look", "cy", "a", 1)))
        for flag in (True, False):
            self.assertEqual(outcome(allowed_marks, looked, (flag,), ("a", -1, 2)), ("NotAReport", (("position", flag),)))
        with self.assertRaises(MomentOutOfRange):
            stretch_at(HISTORY, "a", 5)
        with self.assertRaises(UnknownName):
            stretch_at(HISTORY, "aa", 0)
        with self.assertRaises(NotAReport):
            allowed_marks(HISTORY, (-2,), ("a", -1, 0))

    def test_arguments_by_name(self):
        self.assertEqual(stretches_of(history=HISTORY), stretches_of(HISTORY))
        self.assertEqual(stretch_at(moment=2, place="a", history=HISTORY), ("a", 0, 3))
        self.assertEqual(allowed_marks(stretch=("a", -1, 0), trusted=(), history=HISTORY), (1,))


if __name__ == "__main__":
    unittest.main()
