import random
import unittest

from mixedbags.desk import Desk
from mixedbags.errors import BagsError, InvalidEvent, InvalidRow, MomentOutOfRange, NothingToUndo, TextError, UnknownName
from tests.support import outcome, same
from tests.test_historyreadings import changed_parts
from tests.world_oracles import SlowDesk, random_row, written_line

START = "world a:1,b:0,c:1,d:0"
ROWS = ("mix ann a,b", "mix bob c,d", "pour cy b,c 1", "pour cy a,d 1")
SIXTY = "9" * 60


def invalid(text):
    return ("InvalidRow", (("row", text),))


def desk_after(*texts):
    desk = Desk()
    for text in texts:
        desk.say(text)
    return desk


class DeskTest(unittest.TestCase):
    def answers(self, desk, *pairs):
        for text, expected in pairs:
            found = outcome(desk.say, text)
            self.assertTrue(same(found, ("returns", expected)), (text, found))

    def refuses(self, desk, *texts):
        for text in texts:
            self.assertEqual(outcome(desk.say, text), invalid(text), text)

    def test_examples(self):
        desk = desk_after("world a:1,b:0", "mix ann a,b")
        self.answers(desk, ("range 1 a", "0-1"), ("looks a 1 1", "1"), ("log", "world a:1,b:0 / mix ann a,b"))
        self.refuses(Desk(), "count")

    def test_rows(self):
        desk = Desk()
        self.answers(desk, (START, "ok"), ("mix ann a,b", "1"), ("new a ?", "2"), ("look cy a 1", "3"), ("pour cy a,b 0", "4"),
                     ("trust cy", "yes"), ("trust cy", "no"), ("distrust bob", "no"), ("distrust cy", "yes"), ("count", "8"),
                     ("undo", "distrust cy"), ("trusted", "cy"), ("undo", "distrust bob"), ("undo", "trust cy"), ("undo", "trust cy"),
                     ("trusted", "-"), ("undo", "pour cy a,b 0"), ("undo", "look cy a 1"), ("undo", "new a ?"), ("count", "1"),
                     ("log", START + " / mix ann a,b"), ("undo", "mix ann a,b"), ("count", "0"), ("log", START))
        self.assertEqual(outcome(desk.say, "undo"), ("NothingToUndo", (("steps", 0),)))

    def test_queries(self):
        desk = desk_after(START, *ROWS, "trust cy", "trust ann")
        self.answers(desk, ("range 2 a,c", "0-2"), ("numbers 2 a,c", "0,2"), ("range 2 -", "0-0"), ("numbers 0 -", "0"), ("numbers 4 a,b", "0,1,2"),
                     ("moved ann,bob", "0"), ("moved -", "0"), ("cost cy", "0"), ("cost -", "0"), ("trusted", "ann,cy"), ("settled a,d 1 1", "yes"),
                     ("settled a,b 2 2", "no"), ("looks a,b 2 2", "2"), ("looks - 0 0", "0"), ("settled - 1 1", "yes"),
                     (f"looks a 0 {SIXTY}", "0"), (f"settled a {SIXTY} {SIXTY}", "yes"), ("range 0 a,b,c,d", "2-2"))

    def test_costs_and_moves(self):
        desk = desk_after("world a:1,b:0", "look cy a 0", "look dot b 1", "pour dot a 0", "mix ann a,b", "look eve b 1")
        self.answers(desk, ("cost cy", "1"), ("cost cy,dot", "3"), ("cost eve", "0"), ("cost nobody", "0"), ("moved ann", "0"), ("trust eve", "yes"),
                     ("moved ann", "1"), ("moved bob", "0"), ("cost cy,dot,eve", "3"))

    def test_none_and_no_elements(self):
        desk = desk_after("world a:1", "look cy a 0", "trust cy")
        self.answers(desk, ("range 0 a", "-"), ("range 1 -", "-"), ("numbers 0 a", "-"), ("moved ann", "-"), ("moved -", "-"), ("cost dot", "-"),
                     ("cost -", "-"), ("settled a 1 1", "yes"), ("looks a 1 1", "0"), ("distrust cy", "yes"), ("trusted", "-"), ("cost cy", "1"))

    def test_errors_of_the_world(self):
        desk = desk_after(START)
        for text, expected in (
                ("new e 1", ("InvalidEvent", (("event", ("new", "e", 1)), ("reason", "place")))),
                ("mix ann a,z", ("InvalidEvent", (("event", ("mix", "ann", ("a", "z"))), ("reason", "place")))),
                ("range 1 a", ("MomentOutOfRange", (("moment", 1),))), ("range 1 z", ("MomentOutOfRange", (("moment", 1),))),
                ("range 0 a,y,z", ("UnknownName", (("name", "y"),))), ("numbers 0 z", ("UnknownName", (("name", "z"),))),
                (f"numbers {SIXTY} a", ("MomentOutOfRange", (("moment", int(SIXTY)),))), ("settled z 1 1", ("UnknownName", (("name", "z"),))),
                ("looks a,z 0 1", ("UnknownName", (("name", "z"),))), ("undo", ("NothingToUndo", (("steps", 0),)))):
            self.assertTrue(same(outcome(desk.say, text), expected), text)
        for at in range(14):
            desk.say("look cy a 1")
        self.assertEqual(outcome(desk.say, "new a 0"), ("InvalidEvent", (("event", ("new", "a", 0)), ("reason", "full"))))
        self.answers(desk, ("trust cy", "yes"), ("count", "15"))

    def test_strings_of_no_valid_form(self):
        desk = desk_after(START, *ROWS)
        self.refuses(
            desk, "", " ", "undo ", " undo", "undo 1", "Undo", "count 0", "log a", "trusted cy", "trusted ", "range", "range 1", "range a 1",
            "range 1 a b", "range 1  a", "range 1 a ", "range 01 a", "range +1 a", "range -1 a", "range ? a", "range 1 b,a", "range 1 a,a",
            "range 1 a,", "range 1 A", "range 1 a,-", "range 1 --", "range - a", "range 1 ", "numbers 1", "numbers 1_0 a", "moved", "moved ",
            "moved bob,ann", "moved ann bob", "moved Ann", "cost", "cost 1", "cost ann,ann", "settled a 1", "settled a 2 1", "settled 1 1 a",
            "settled a 1 1 1", "settled a -1 1", "settled a 00 1", "looks a 1 0", "looks a 1", "looks b,a 1 1", "look cy a ?", "look cy a",
            "mix ann a", "mix ann -", "pour cy - 0", "pour cy a 2", "new a", "trust", "trust a,b", "distrust -", "place a 1", "ok", "yes",
            "world", "world ", "world a", "world a:2", "world b:1,a:1", "world a:1 b:1", "world a:1 ", "worlds a:1", "World a:1", "world -",
            f"range {SIXTY}9 a", f"settled a 0 {SIXTY}9", f"looks a {SIXTY}0 {SIXTY}0", "undo\n", "count\ncount", "range 1 a\n", "world a:1\n",
            "trust ann\n", "0", "-", "history", "quit", "len", "fewest a 1 1")
        self.answers(desk, ("count", "4"), ("log", " / ".join([START, *ROWS])))

    def test_before_the_first_world_line(self):
        desk = Desk()
        texts = ("undo", "count", "log", "trusted", "range 0 a", "numbers 9 z", "moved -", "cost -", "settled - 0 0", "looks - 0 0", "mix ann a,b",
                 "new a 1", "trust ann", "distrust ann", "", "x", "world", "world a:2", "range 1 b,a")
        self.refuses(desk, *texts)
        self.assertEqual(desk.counts(), (len(texts),) * 2)
        self.answers(desk, ("world a:1", "ok"), ("count", "0"))

    def test_a_new_world(self):
        desk = desk_after(START, *ROWS, "trust cy")
        self.answers(desk, ("world x:?", "ok"), ("count", "0"), ("trusted", "-"), ("log", "world x:?"), ("range 0 x", "0-1"))
        self.refuses(desk, "world x")
        self.answers(desk, ("new x 1", "1"), ("world x:?", "ok"), ("count", "0"))
        self.assertEqual(desk.counts(), (15, 15))

    def test_counts(self):
        desk = Desk()
        self.assertTrue(same(desk.counts(), (0, 0)))
        for at, text in enumerate(("", "count", START, "new e 1", "undo", "range 9 a", "range 0 z", "trust ann", "undo", "what")):
            outcome(desk.say, text)
            self.assertTrue(same(desk.counts(), (at + 1, at + 1)))
        self.assertEqual(Desk().counts(), (0, 0))

    def test_random_strings(self):
        seen = {}
        for seed in range(500):
            chance = random.Random(seed)
            desk, slow = Desk(), SlowDesk()
            for step in range(30):
                text = self.random_text(chance)
                if step == 0 and chance.random() < 0.9:
                    text = chance.choice((START, "world a:?,b:?", "world a:1,b:0,c:?"))
                found, expected = outcome(desk.say, text), slow.say(text)
                self.assertTrue(same(found, expected), (text, found, expected))
                self.assertEqual(desk.counts(), (step + 1, step + 1))
                seen[found[0]] = seen.get(found[0], 0) + 1
        self.assertTrue(all(seen[kind] > 40 for kind in ("returns", "InvalidRow", "InvalidEvent", "MomentOutOfRange", "UnknownName", "NothingToUndo")), seen)

    def random_text(self, chance):
        names = chance.choice(("-", "a", "b", "a,b", "a,c", "a,b,c,d", "z"))
        persons = chance.choice(("-", "ann", "bob,cy", "cy,dot,eve", "ann,bob,cy,dot,eve", "zed"))
        low, high = (chance.choice("0011123") for _ in range(2))
        moment = chance.choice(("0", "1", "2", "4", "9", SIXTY))
        queries = ("undo", "count", "log", "trusted", f"range {moment} {names}", f"numbers {moment} {names}", f"moved {persons}",
                   f"cost {persons}", f"settled {names} {low} {high}", f"looks {names} {low} {high}")
        row = written_line(random_row(chance, chance.choice((("a", "b"), ("a", "b"), tuple("abcd")))))
        text = chance.choice((row, row, chance.choice(queries), chance.choice(queries), row if chance.random() < 0.9 else START))
        if chance.random() < 0.15:
            if chance.random() < 0.6:
                return " ".join(changed_parts(chance, text.split(" "), ("", "-", "a", "0", "007", "b,a", "undo", "world", SIXTY + "9", "ann")))
            return "".join(changed_parts(chance, text, " ab,01?-Z:"))
        return text

    def test_families(self):
        for kind in (InvalidRow, TextError, BagsError):
            with self.assertRaises(kind):
                Desk().say("")
        desk = desk_after(START)
        for kind, text in ((InvalidEvent, "new e 1"), (MomentOutOfRange, "range 1 a"), (UnknownName, "range 0 e"), (NothingToUndo, "undo")):
            with self.assertRaises(kind):
                desk.say(text)

    def test_arguments_by_name(self):
        self.assertEqual(Desk().say(row=START), "ok")


if __name__ == "__main__":
    unittest.main()
