import copy
import random
import unittest

from mixedbags import kinds
from tests import oracles
from tests.support import HISTORY, ODD_VALUES, SIXTY, changed, random_history, same

MANY_NAMES = tuple(sorted(a + b for a in "abcdefghij" for b in "abcdefghij"))


class KindsTest(unittest.TestCase):
    def check(self, function, good, bad):
        for value in good:
            self.assertIs(function(value), True, value)
        for value in bad:
            self.assertIs(function(value), False, value)

    def test_integers(self):
        good = (-7, 0, 1, -1, SIXTY, -SIXTY)
        self.check(kinds.is_integer, good, (True, False, None, "1", "", (1,), [1], ()))

    def test_numbers(self):
        self.check(kinds.is_number, (0, 1, 2, SIXTY), (-1, -SIXTY, True, False, None, "0", (), (0,), [0]))

    def test_names(self):
        good = ("a", "z", "ann", "abcdefgh", "zzzzzzzz")
        bad = ("", "abcdefghi", "A", "aB", "a1", "a b", " ", "a ", "a\n", "a_", "a-b", "`", "{", "?", None, 0, True,
               ("a",), ["a"], (), ("a", "b"))
        self.check(kinds.is_name, good, bad)

    def test_marks(self):
        self.check(kinds.is_mark, (None, 0, 1), (True, False, 2, -1, SIXTY, "", "0", "1", "?", (), (0,), [1]))

    def test_places(self):
        good = ((), ("a",), ("a", "b"), ("a", "aa", "b"), ("abcdefgh", "b"), MANY_NAMES)
        bad = (("b", "a"), ("a", "a"), ["a", "b"], [], "ab", "", None, 0, ("a", 1), ("a", None), ("a", "B"), ("a", ""),
               ("a", ("b",)), ("a", "b", "a"), ("a", "c", "b"), ("abcdefghi",), MANY_NAMES + ("a",))
        self.check(kinds.is_places, good, bad)

    def test_mixes(self):
        good = (("mix", "ann", ("a", "b")), ("mix", "a", ("a", "b", "c")), ("mix", "ann", MANY_NAMES))
        bad = (("mix", "ann", ("a",)), ("mix", "ann", ()), ("mix", "ann", ("b", "a")), ("mix", "ann", ("a", "a")),
               ("mix", "ann", ["a", "b"]), ["mix", "ann", ("a", "b")], ("mix", "Ann", ("a", "b")), ("mix", "ann"),
               ("mix", None, ("a", "b")), ("mix", "ann", ("a", "b"), 1), ("mix", ("a", "b")), ("mix", "ann", "ab"),
               ("mix",), (), ("Mix", "ann", ("a", "b")), ("mixes", "ann", ("a", "b")), ("mix", "ann", ("a", 1)))
        self.check(kinds.is_event, good, bad)

    def test_news(self):
        good = (("new", "a", 0), ("new", "a", 1), ("new", "abcdefgh", None))
        bad = (("new", "a", True), ("new", "a", False), ("new", "a", 2), ("new", "a", -1), ("new", "a"), ("new", "A", 1),
               ("new", "ann", "a", 1), ("new", ("a",), 1), ["new", "a", 1], ("new", "a", "?"), ("new", "abcdefghi", 1),
               ("new", "a", ()), ("new", "a", 1, 1))
        self.check(kinds.is_event, good, bad)

    def test_looks(self):
        good = (("look", "cy", "a", 0), ("look", "cy", "a", 1))
        bad = (("look", "cy", "a", None), ("look", "cy", "a", True), ("look", "cy", "a", False), ("look", "cy", "a", 2),
               ("look", "cy", "a"), ("look", "cy", ("a",), 1), ("look", "a", 1), ["look", "cy", "a", 1],
               ("look", "Cy", "a", 1), ("look", "cy", "", 1), ("look", "cy", "a", -1), ("look", "cy", "a", 1, 1))
        self.check(kinds.is_event, good, bad)

    def test_pours(self):
        good = (("pour", "cy", ("a",), 0), ("pour", "cy", ("a",), 1), ("pour", "cy", ("a", "b"), 2),
                ("pour", "cy", MANY_NAMES, 100))
        bad = (("pour", "cy", ("a",), 2), ("pour", "cy", (), 0), ("pour", "cy", ("a", "b"), 3), ("pour", "cy", ("a",), -1),
               ("pour", "cy", ("a",), True), ("pour", "cy", ("a",), False), ("pour", "cy", ("a",), None),
               ("pour", "cy", ("a",), SIXTY), ("pour", "cy", ("b", "a"), 1), ("pour", "cy", ["a"], 1), ("pour", "cy", "a", 1),
               ("pour", "cy", ("a",)), ("pour", "cy", ("a",), 1, 1), ("pour", 1, ("a",), 1), ["pour", "cy", ("a",), 1],
               ("pour", "cy", MANY_NAMES, 101))
        self.check(kinds.is_event, good, bad)

    def test_values_of_other_kinds_are_no_events(self):
        self.check(kinds.is_event, (), ODD_VALUES)
        for first in (["mix"], ("mix",), None, True, 0, "pouring"):
            self.assertIs(kinds.is_event((first, "ann", ("a", "b"))), False)

    def test_history_shapes(self):
        good = (((), ()), HISTORY, ((("b", 1), ("a", 0)), ()), ((("a", 1), ("a", None)), ()),
                ((), (("new", "z", 1),)), ((("a", None),) * 100, (("new", "b", None),) * 100))
        bad = (((),), ((), (), ()), [(), ()], ([], ()), ((), []), ((("a", True),), ()), ((("a", 1, 1),), ()), ((("a",),), ()),
               (("a",), ()), ((["a", 1],), ()), ((("A", 1),), ()), ((("a", 2),), ()), ((), (("mix", "ann", ("a",)),)),
               ((), (("new", "a", 1), None)), ((("a", 1), ()), ()), None, (), "", 0, True, (None, ()), ((), None))
        self.check(kinds.is_history_shape, good, bad)

    def test_changed_values_against_the_oracle(self):
        chance = random.Random(1)
        for seed in range(3000):
            history = random_history(seed, chance.randint(1, 7), chance.randint(0, 14))
            thing = changed(chance, history, chance.choice((0, 1, 1, 2)))
            before = copy.deepcopy(thing)
            self.assertIs(kinds.is_history_shape(thing), oracles.is_history_shape(thing), thing)
            self.assertTrue(same(thing, before))
            for part in [*history[1][:3], thing]:
                event = changed(chance, part, chance.choice((1, 2)))
                self.assertIs(kinds.is_event(event), oracles.is_event(event), event)

    def test_arguments_by_name(self):
        for name in ("is_integer", "is_number", "is_name", "is_mark", "is_places", "is_event", "is_history_shape"):
            function = getattr(kinds, name)
            for value in ODD_VALUES:
                self.assertIs(function(thing=value), function(value))


if __name__ == "__main__":
    unittest.main()
