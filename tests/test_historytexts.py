import unittest

from mixedbags.historyreadings import event_read, history_read
from mixedbags.historytexts import event_line, history_text
from tests.support import HISTORY, random_history, same


class HistoryTextsTest(unittest.TestCase):
    def test_examples(self):
        self.assertEqual(event_line(("pour", "cy", ("b", "c"), 1)), "pour cy b,c 1")
        history = ((("a", 1), ("b", None)), (("mix", "ann", ("a", "b")),))
        self.assertEqual(history_text(history), "place a 1\nplace b ?\nmix ann a,b")

    def test_lines_of_all_kinds(self):
        lines = {
            ("mix", "ann", ("a", "b", "cc")): "mix ann a,b,cc",
            ("new", "a", None): "new a ?",
            ("new", "a", 0): "new a 0",
            ("new", "abcdefgh", 1): "new abcdefgh 1",
            ("look", "cy", "a", 0): "look cy a 0",
            ("look", "cy", "b", 1): "look cy b 1",
            ("pour", "cy", ("a",), 0): "pour cy a 0",
            ("pour", "cy", tuple("abcdefghijkl"), 10): "pour cy a,b,c,d,e,f,g,h,i,j,k,l 10",
        }
        for event, line in lines.items():
            self.assertEqual(event_line(event), line)
            self.assertTrue(same(event_read(line), event))

    def test_texts(self):
        self.assertEqual(history_text(((("a", None),), ())), "place a ?")
        self.assertEqual(history_text(((("a", 0), ("b", 1)), ())), "place a 0\nplace b 1")
        self.assertEqual(history_text(HISTORY).split("\n")[4:],
                         ["mix ann a,b", "mix bob c,d", "pour cy b,c 1", "pour cy a,d 1"])

    def test_written_and_read_again(self):
        for seed in range(300):
            history = random_history(seed, 1 + seed % 7, seed % 15)
            text = history_text(history)
            self.assertTrue(same(history_read(text), history))
            self.assertEqual(history_text(history_read(text)), text)
            self.assertEqual(text.count("\n") + 1, len(history[0]) + len(history[1]))
            for event in history[1]:
                self.assertTrue(same(event_read(event_line(event)), event))

    def test_arguments_by_name(self):
        self.assertEqual(event_line(event=("new", "a", 1)), "new a 1")
        self.assertEqual(history_text(history=HISTORY), history_text(HISTORY))


if __name__ == "__main__":
    unittest.main()
