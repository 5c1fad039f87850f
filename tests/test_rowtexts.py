import random
import unittest

from mixedbags.rowtexts import log_lines, row_line
from mixedbags.rowreadings import read_log, read_row
from tests.support import EVENTS, NAMES, START, same
from tests.test_replaying import world_of
from tests.world_oracles import random_row, written_first, written_line


class RowLineTest(unittest.TestCase):
    def test_example(self):
        self.assertTrue(same(row_line(("pour", "cy", ("b", "c"), 1)), "pour cy b,c 1"))

    def test_rows_of_every_kind(self):
        for row, line in ((("mix", "ann", ("a", "b", "zz")), "mix ann a,b,zz"), (("new", "a", None), "new a ?"), (("new", "a", 0), "new a 0"),
                          (("look", "cy", "a", 1), "look cy a 1"), (("pour", "cy", ("a",), 0), "pour cy a 0"), (("trust", "ann"), "trust ann"),
                          (("distrust", "abcdefgh"), "distrust abcdefgh"), (("trust", "trust"), "trust trust")):
            self.assertTrue(same(row_line(row), line))
            self.assertTrue(same(read_row(line), row))

    def test_rows_are_read_again(self):
        chance = random.Random(80)
        for _ in range(1500):
            row = random_row(chance, NAMES[:chance.randint(1, 7)])
            self.assertTrue(same(row_line(row), written_line(row)))
            self.assertTrue(same(read_row(row_line(row)), row))

    def test_arguments_by_name(self):
        self.assertEqual(row_line(row=("trust", "ann")), "trust ann")


class LogLinesTest(unittest.TestCase):
    def test_example(self):
        self.assertTrue(same(log_lines((("world", START), ("trust", "cy"))), ["world a:1,b:0,c:1,d:0", "trust cy"]))

    def test_unknown_marks(self):
        self.assertEqual(log_lines((("world", (("a", 1), ("b", 0), ("d", None))),)), ["world a:1,b:0,d:?"])
        self.assertEqual(log_lines((("world", (("abcdefgh", None),)),)), ["world abcdefgh:?"])

    def test_logs_are_read_again(self):
        for seed in range(300):
            log = world_of(seed)[0].log()
            lines = log_lines(log)
            self.assertTrue(same(lines, [written_first(log[0][1])] + [written_line(row) for row in log[1:]]))
            self.assertTrue(same(read_log(lines), log))

    def test_returned_lists_are_new(self):
        log = (("world", START), *EVENTS)
        log_lines(log).clear()
        self.assertEqual(len(log_lines(log)), 5)

    def test_arguments_by_name(self):
        self.assertEqual(log_lines(log=(("world", START),)), ["world a:1,b:0,c:1,d:0"])


if __name__ == "__main__":
    unittest.main()
