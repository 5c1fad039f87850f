import random
import unittest

from mixedbags.errors import BagsError, InvalidText, TextError
from mixedbags.replaying import is_log
from mixedbags.rowreadings import read_log, read_row
from mixedbags.rowtexts import log_lines, row_line
from tests import world_oracles
from tests.support import NAMES, START, outcome, same
from tests.test_historyreadings import EVENT_LINES, SIGNS, WORDS, changed_parts, text_error
from tests.test_replaying import world_of
from tests.world_oracles import random_row

LINES = (*EVENT_LINES, "trust ann", "distrust bob")
FIRST = "world a:1,b:0,d:?"
PARTS = (*WORDS, "trust", "distrust", "world", "a:1", "a:?", "b:0,a:1", "a:1,a:0", "a:2", "a:", ":1", "a", "a:1,", "a:1,b", "a:1:0",
         "a:1,b:0", "undo", "place")


def changed_line(chance, line):
    way = chance.random()
    if way < 0.5:
        return " ".join(changed_parts(chance, line.split(" "), PARTS))
    return "".join(changed_parts(chance, line or "a", SIGNS.replace("\n", ":")))


class ReadRowTest(unittest.TestCase):
    def check(self, text):
        """Compare the outcome with that of the oracle, and return whether the text is a row."""
        field = world_oracles.row_field(text)
        found = outcome(read_row, text)
        expected = ("returns", world_oracles.written_row(text)) if field is None else text_error(0, field)
        self.assertTrue(same(found, expected), (text, found, expected))
        return field is None

    def refuses(self, text, field):
        self.assertEqual(outcome(read_row, text), text_error(0, field), text)

    def test_example(self):
        self.assertTrue(same(read_row("new a ?"), ("new", "a", None)))

    def test_a_world_line_is_no_row(self):
        for text in (FIRST, "world", "world a", "world  "):
            self.refuses(text, 0)

    def test_trust(self):
        for kind in ("trust", "distrust"):
            self.assertTrue(same(read_row(f"{kind} ann"), (kind, "ann")))
            for rest, field in (("", 1), (" ", 1), (" Ann", 1), (" abcdefghi", 1), (" a,b", 1), ("  ann", 1), (" ann ", 2), (" ann bob", 2),
                                (" ann  ", 2), (" ann\n", 1), (" 1", 1), (" ?", 1), (" -", 1)):
                self.refuses(kind + rest, field)

    def test_first_words(self):
        for text in ("", " ", "Trust ann", "trusts ann", " trust ann", "undo", "count", "place a 1", "distrus ann", "mix,ann a,b"):
            self.refuses(text, 0)

    def test_events(self):
        for line in LINES:
            self.assertTrue(self.check(line))
            words = line.split(" ")
            for count in range(1, len(words)):
                self.refuses(" ".join(words[:count]), count)
            for more in (" ", " a", "  "):
                self.refuses(line + more, len(words))
        self.refuses("look cy a ?", 3)
        self.refuses("pour cy a,b 3", 3)
        self.refuses("pour cy a,b " + "1" * 61, 3)
        self.refuses("mix ann b,a", 2)

    def test_changed_lines(self):
        chance = random.Random(81)
        seen = {True: 0, False: 0}
        for _ in range(6000):
            line = row_line(random_row(chance, NAMES[:chance.randint(1, 5)]))
            for _ in range(chance.choice((1, 1, 2))):
                line = changed_line(chance, line)
            seen[self.check(line)] += 1
        self.assertGreater(min(seen.values()), 300)

    def test_families_and_names(self):
        for kind in (InvalidText, TextError, BagsError):
            with self.assertRaises(kind):
                read_row(text="")


class ReadLogTest(unittest.TestCase):
    def check(self, lines):
        """Compare the outcome with that of the oracle, and return whether the lines are a log."""
        wrong = world_oracles.wrong_log_line(lines)
        before = list(lines)
        found = outcome(read_log, lines)
        if wrong is None:
            log = (("world", world_oracles.written_start(lines[0])), *[world_oracles.written_row(line) for line in lines[1:]])
            self.assertTrue(same(found, ("returns", log)))
            self.assertTrue(is_log(found[1]))
            self.assertEqual(log_lines(found[1]), lines)
        else:
            self.assertTrue(same(found, text_error(*wrong)), (lines, found, wrong))
        self.assertEqual(lines, before)
        return wrong is None

    def refuses(self, lines, line, field):
        self.assertEqual(outcome(read_log, lines), text_error(line, field), lines)

    def test_examples(self):
        self.refuses(["world a:1,a:0"], 0, 1)

    def test_an_empty_list(self):
        self.refuses([], 0, 0)

    def test_first_lines(self):
        self.assertTrue(same(read_log([FIRST]), (("world", (("a", 1), ("b", 0), ("d", None))),)))
        for text, field in (("", 0), ("trust ann", 0), ("World a:1", 0), (" world a:1", 0), ("world", 1), ("world ", 1), ("world  a:1", 1),
                            ("world a", 1), ("world a:", 1), ("world :1", 1), ("world a:2", 1), ("world a:01", 1), ("world a:1,", 1),
                            ("world ,a:1", 1), ("world a:1,,b:1", 1), ("world b:1,a:1", 1), ("world a:1,b:1,b:0", 1), ("world A:1", 1),
                            ("world abcdefghi:1", 1), ("world a:1:0", 1), ("world a;1", 1), ("world a:1 ", 2), ("world a:1 b:1", 2),
                            ("world a:1  ", 2), ("world a:1\n", 1), ("worlda:1", 0), ("world -", 1), ("world a:1, b:1", 1), ("world a:True", 1)):
            self.refuses([text], 0, field)
            self.refuses([text, "mix"], 0, field)

    def test_later_lines(self):
        self.refuses([FIRST, FIRST], 1, 0)
        self.refuses([FIRST, "trust ann", "world"], 2, 0)
        self.refuses([FIRST, ""], 1, 0)
        self.refuses([FIRST, "trust ann", "mix ann", "trust"], 2, 2)
        self.refuses([FIRST, "trust ann", "look cy a 2"], 2, 3)
        self.assertTrue(self.check([FIRST, "new zz 1"] + ["new a ?"] * 30))

    def test_changed_logs(self):
        chance = random.Random(82)
        seen = {}
        for seed in range(2500):
            lines = log_lines(world_of(seed, 6)[0].log())
            for _ in range(chance.choice((1, 1, 2))):
                if chance.random() < 0.5 and lines:
                    lines = changed_parts(chance, lines, (*LINES, FIRST, "", "world a:1"))
                elif lines:
                    at = chance.randrange(len(lines))
                    lines[at] = changed_line(chance, lines[at])
            self.check(lines)
            wrong = world_oracles.wrong_log_line(lines)
            kind = wrong and (wrong[0] > 0, min(wrong[1], 3))
            seen[kind] = seen.get(kind, 0) + 1
        self.assertTrue(all(seen[kind] > 10 for kind in (None, (False, 0), (False, 1), (False, 2), (True, 0), (True, 1), (True, 2), (True, 3))))

    def test_parsed_logs_are_written_again(self):
        self.assertEqual(log_lines(read_log([FIRST, *LINES])), [FIRST, *LINES])
        self.assertEqual(read_log(log_lines((("world", START),))), (("world", START),))

    def test_arguments_by_name(self):
        self.assertEqual(read_log(lines=["world a:1"]), (("world", (("a", 1),)),))


if __name__ == "__main__":
    unittest.main()
