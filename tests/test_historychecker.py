import copy
import random
import unittest

from mixedbags.errors import BagsError, InvalidPaper, PaperError
from mixedbags.historychecker import lets_history
from tests import oracles
from tests.support import HISTORY, ODD_VALUES, START, changed, outcome, paper_error, random_history, same


class HistoryCheckerTest(unittest.TestCase):
    def refuses(self, thing, word, at):
        self.assertEqual(outcome(lets_history, thing), paper_error(word, at), thing)

    def test_example(self):
        self.assertEqual(lets_history(HISTORY), 4)

    def test_histories(self):
        self.assertEqual(lets_history(((("a", None),), ())), 0)
        for seed in range(200):
            history = random_history(seed, 1 + seed % 7, seed % 15)
            self.assertEqual(lets_history(history), seed % 15)

    def test_limits_do_not_matter(self):
        names = sorted(a + b for a in "abcdefghij" for b in "abcdefghij")
        start = tuple((name, None) for name in names)
        events = (("mix", "ann", tuple(names)), ("pour", "bob", tuple(names), 100)) * 50
        self.assertEqual(lets_history((start, events)), 100)

    def test_shape(self):
        for thing in ODD_VALUES:
            if thing != ((), ()):
                self.refuses(thing, "shape", -1)
        self.refuses((list(START), ()), "shape", -1)
        self.refuses((START, (("look", "cy", "a", None),)), "shape", -1)
        self.refuses(((("a", True),), ()), "shape", -1)

    def test_start(self):
        self.refuses(((), ()), "start", -1)
        self.refuses(((), (("new", "a", 1),)), "start", -1)
        self.refuses(((("a", 1), ("a", 1)), ()), "start", 1)
        self.refuses(((("b", 1), ("a", 1)), ()), "start", 1)
        self.refuses(((("a", 1), ("c", 1), ("b", 1), ("a", 0)), ()), "start", 2)

    def test_event(self):
        for event in (("new", "e", 1), ("look", "a", "e", 1), ("mix", "e", ("a", "e")), ("pour", "a", ("e",), 0),
                      ("mix", "ann", ("a", "aa")), ("pour", "cy", ("a", "b", "c", "d", "e"), 5)):
            self.refuses((START, (("new", "a", 1), event, ("new", "z", 1))), "event", 1)
        self.refuses((START, (("new", "z", 1), ("new", "a", 1))), "event", 0)

    def test_names_are_whole(self):
        start = (("a", 1), ("ab", 0), ("bb", 1))
        self.assertEqual(lets_history((start, (("look", "cy", "bb", 1), ("new", "bb", 1), ("mix", "cy", ("a", "bb"))))), 3)
        for event in (("look", "cy", "ba", 1), ("new", "b", 1), ("look", "cy", "aa", 0), ("pour", "cy", ("a", "b"), 0)):
            self.refuses((start, (event,)), "event", 0)

    def test_persons_need_not_be_places(self):
        self.assertEqual(lets_history((START, (("look", "zz", "a", 1), ("mix", "e", ("a", "b"))))), 2)

    def test_order_of_the_reasons(self):
        self.refuses(((("b", 1), ("a", 1)), (("new", "z", 1), ("new", "a", 2))), "shape", -1)
        self.refuses(((("b", 1), ("a", 1)), (("new", "z", 1),)), "start", 1)

    def test_changed_values_against_the_oracle(self):
        chance = random.Random(2)
        seen = set()
        for seed in range(4000):
            history = random_history(seed, chance.randint(1, 7), chance.randint(0, 14))
            thing = changed(chance, history, chance.choice((1, 1, 2)))
            before = copy.deepcopy(thing)
            reason = oracles.history_reason(thing)
            expected = ("returns", len(thing[1])) if reason is None else paper_error(*reason)
            self.assertEqual(outcome(lets_history, thing), expected, thing)
            self.assertTrue(same(thing, before))
            seen.add(reason and reason[0])
        self.assertEqual(seen, {None, "shape", "start", "event"})

    def test_families_and_names(self):
        for kind in (InvalidPaper, PaperError, BagsError, ValueError):
            with self.assertRaises(kind):
                lets_history(thing=())
        self.assertEqual(lets_history(thing=HISTORY), 4)


if __name__ == "__main__":
    unittest.main()
