import random
import unittest

from mixedbags.errors import BagsError, InvalidText, TextError
from mixedbags.historychecker import lets_history
from mixedbags.historyreadings import event_read, history_read
from mixedbags.historytexts import event_line, history_text
from tests import oracles
from tests.support import outcome, random_history, same

EVENT_LINES = ("mix ann a,b", "new a ?", "look cy a 0", "pour cy a,b 1")
WORDS = ("", "mix", "new", "look", "pour", "place", "ann", "a", "b", "a,b", "b,a", "a,a", "a,", ",a", ",", "0", "1", "2",
         "?", "00", "01", "-1", "+1", "1_0", "A", "abcdefghi", "a,b,c", "world", "trust", "0" * 61, "9" * 60, "9" * 61)
SIGNS = " \nab,01?zZ9-"


def text_error(line, field):
    return ("InvalidText", (("line", line), ("field", field)))


def changed_parts(chance, parts, others):
    """The list with one part changed, removed, added, repeated or exchanged."""
    parts = list(parts)
    at = chance.randrange(len(parts))
    other = chance.randrange(len(parts))
    way = chance.randrange(5)
    if way == 0:
        parts[at] = chance.choice(others)
    elif way == 1:
        del parts[at]
    elif way == 2:
        parts.insert(chance.randint(0, len(parts)), chance.choice(others))
    elif way == 3:
        parts.insert(other, parts[at])
    else:
        parts[at], parts[other] = parts[other], parts[at]
    return parts


def changed_line(chance, line):
    if chance.random() < 0.6:
        return " ".join(changed_parts(chance, line.split(" "), WORDS))
    return "".join(changed_parts(chance, line or "a", SIGNS.replace("\n", "")))


def changed_text(chance, text):
    way = chance.random()
    lines = text.split("\n")
    if way < 0.4:
        return "\n".join(changed_parts(chance, lines, EVENT_LINES + ("place a 1", "place z ?", "", "place")))
    if way < 0.8:
        at = chance.randrange(len(lines))
        return "\n".join(lines[:at] + [changed_line(chance, lines[at])] + lines[at + 1:])
    return "".join(changed_parts(chance, text or "a", SIGNS))


class EventReadTest(unittest.TestCase):
    def refuses(self, text, field):
        self.assertEqual(outcome(event_read, text), text_error(0, field), text)

    def test_examples(self):
        self.assertEqual(event_read("look cy a 0"), ("look", "cy", "a", 0))

    def test_first_words(self):
        for text in ("", " ", "place a 1", "Mix ann a,b", "mixx", " mix ann a,b", "world a:1", "trust ann", "0", "mix,a b"):
            self.refuses(text, 0)

    def test_missing_words(self):
        for line in EVENT_LINES:
            words = line.split(" ")
            for count in range(1, len(words)):
                self.refuses(" ".join(words[:count]), count)

    def test_words_behind_the_last(self):
        for line in EVENT_LINES:
            for more in (" ", " a", "  ", " 1 2", " 0"):
                self.refuses(line + more, len(line.split(" ")))

    def test_empty_words(self):
        self.refuses("mix  a,b", 1)
        self.refuses("mix ann  a,b", 2)
        self.refuses("mix ann ", 2)
        self.refuses("mix ", 1)
        self.refuses("new a  1", 2)
        self.refuses("pour cy a ", 3)
        self.refuses("look  ", 1)

    def test_persons(self):
        for word in ("Ann", "abcdefghi", "", "a1", "a,b", "?", "1"):
            for line in ("mix {} a,b", "look {} a 1", "pour {} a 1"):
                self.refuses(line.format(word), 1)

    def test_places_of_a_mix(self):
        for word in ("a", "b,a", "a,a", "a,,b", ",a,b", "a,b,", ",", "a,B", "a,abcdefghi", "a;b", "a,b,aa", "1,2"):
            self.refuses(f"mix ann {word}", 2)
        self.assertEqual(event_read("mix ann a,aa,b"), ("mix", "ann", ("a", "aa", "b")))

    def test_places_of_a_pour(self):
        for word in ("b,a", "a,a", "", ",", "a,", "1"):
            self.refuses(f"pour cy {word} 0", 2)
        self.assertEqual(event_read("pour cy a 0"), ("pour", "cy", ("a",), 0))

    def test_places_of_a_look_and_a_new(self):
        for word in ("a,b", "", "A", "1", "abcdefghi"):
            self.refuses(f"look cy {word} 1", 2)
            self.refuses(f"new {word} 1", 1)

    def test_marks(self):
        for word in ("?", "2", "", "01", "a", "True", "None", "-0", "10"):
            self.refuses(f"look cy a {word}", 3)
            if word != "?":
                self.refuses(f"new a {word}", 2)
        self.assertTrue(same(event_read("new a ?"), ("new", "a", None)))
        self.assertTrue(same(event_read("new a 1"), ("new", "a", 1)))
        self.assertTrue(same(event_read("look cy a 1"), ("look", "cy", "a", 1)))

    def test_numbers(self):
        for word in ("3", "00", "01", "02", "+1", "-1", "1.", "", "?", "a", "1_0", "9" * 60, "9" * 61, "0" * 61, "1" * 3999):
            self.refuses(f"pour cy a,b {word}", 3)
        for number in (0, 1, 2):
            self.assertTrue(same(event_read(f"pour cy a,b {number}"), ("pour", "cy", ("a", "b"), number)))

    def test_many_places(self):
        names = tuple(sorted(a + b for a in "abcdef" for b in "abcdefghij"))
        word = ",".join(names)
        self.assertEqual(event_read(f"pour cy {word} 60"), ("pour", "cy", names, 60))
        self.refuses(f"pour cy {word} 61", 3)
        self.refuses(f"pour cy {word} 060", 3)
        self.assertEqual(event_read(f"mix cy {word}"), ("mix", "cy", names))
        self.refuses(f"mix cy {word},a", 2)

    def test_the_line_is_passed_on(self):
        self.assertEqual(outcome(event_read, "mix", line=7), text_error(7, 1))
        self.assertEqual(outcome(event_read, "", line=10 ** 59), text_error(10 ** 59, 0))
        self.assertEqual(event_read(text="new a 1", line=7), ("new", "a", 1))
        with self.assertRaises(TypeError):
            event_read("mix", 7)

    def test_changed_lines_against_the_oracle(self):
        chance = random.Random(5)
        read = 0
        for seed in range(3000):
            _, events = random_history(seed, chance.randint(1, 7), 1)
            text = changed_line(chance, event_line(events[0]))
            if chance.random() < 0.2:
                text = changed_line(chance, text)
            field = oracles.wrong_field(text, None)
            if field is None:
                read += 1
                self.assertEqual(event_line(event_read(text)), text)
                self.assertTrue(oracles.is_event(event_read(text)))
            else:
                self.refuses(text, field)
        self.assertGreater(read, 100)

    def test_families(self):
        for kind in (InvalidText, TextError, BagsError):
            with self.assertRaises(kind):
                event_read("")


class HistoryReadTest(unittest.TestCase):
    def refuses(self, text, line, field):
        self.assertEqual(outcome(history_read, text), text_error(line, field), text)

    def test_examples(self):
        self.assertTrue(same(history_read("place a 1\nnew a ?"), ((("a", 1),), (("new", "a", None),))))

    def test_line_0(self):
        for text in ("", "\n", "new a 1", "mix ann a,b", "places a 1", " place a 1", "\nplace a 1", "Place a 1"):
            self.refuses(text, 0, 0)

    def test_place_lines(self):
        self.assertTrue(same(history_read("place a ?"), ((("a", None),), ())))
        self.refuses("place", 0, 1)
        self.refuses("place ", 0, 1)
        self.refuses("place A", 0, 1)
        self.refuses("place A 2 x", 0, 1)
        self.refuses("place a", 0, 2)
        self.refuses("place a ", 0, 2)
        self.refuses("place a 2", 0, 2)
        self.refuses("place a 2 x", 0, 2)
        self.refuses("place a 1 ", 0, 3)
        self.refuses("place a 1 1", 0, 3)
        self.refuses("place a,b 1", 0, 1)
        self.refuses("place a 1\nplace", 1, 1)

    def test_order_of_the_places(self):
        self.refuses("place b 1\nplace a 1", 1, 1)
        self.refuses("place a 1\nplace a 1", 1, 1)
        self.refuses("place a 1\nplace c 1\nplace b 1\nplace c 0", 2, 1)
        self.refuses("place b 1\nplace a x", 1, 1)
        self.assertEqual(len(history_read("place a 1\nplace aa 1\nplace b 1")[0]), 3)

    def test_place_lines_behind_an_event(self):
        self.refuses("place a 1\nnew a 1\nplace b 1", 2, 0)
        self.refuses("place a 1\nnew a 1\nplace", 2, 0)
        self.refuses("place a 1\nlook cy a 1\nnew a 0\nplace b 1", 3, 0)

    def test_unknown_places(self):
        start = "place a 1\nplace b 0\n"
        self.refuses(start + "mix ann a,c", 2, 2)
        self.refuses(start + "new c 1", 2, 1)
        self.refuses(start + "new c 7 8", 2, 1)
        self.refuses(start + "look cy c 1", 2, 2)
        self.refuses(start + "look cy c", 2, 2)
        self.refuses(start + "pour cy a,b,c 9", 2, 2)
        self.refuses(start + "look Cy c 1", 2, 1)
        self.refuses(start + "new a 1\nnew b 1\nnew ab 1", 4, 1)
        self.assertEqual(len(history_read(start + "look c a 1\nmix d a,b")[1]), 2)

    def test_empty_lines(self):
        self.refuses("place a 1\n", 1, 0)
        self.refuses("place a 1\n\nnew a 1", 1, 0)
        self.refuses("place a 1\nnew a 1\n", 2, 0)

    def test_the_first_line_that_is_not_valid(self):
        self.refuses("place a 1\nnew a 2\nnew a 3 4", 1, 2)
        self.refuses("place a 1\nnew a 0\nlook cy a ?\nplace b 1", 2, 3)

    def test_many_lines(self):
        names = sorted(a + b for a in "abcdef" for b in "abcdefghij")
        start = [f"place {name} ?" for name in names]
        text = "\n".join(start + [f"mix ann {','.join(names)}"] * 20)
        self.assertEqual(history_text(history_read(text)), text)
        self.assertEqual(len(history_read(text)[1]), 20)
        self.refuses(text + "\nmix ann a,b", 80, 2)
        text = "place a 1\n" + "\n".join(["look cy a 1"] * 79)
        self.assertEqual(len(history_read(text)[1]), 79)

    def test_changed_texts_against_the_oracle(self):
        chance = random.Random(6)
        read = 0
        fields = set()
        for seed in range(4000):
            text = history_text(random_history(seed, chance.randint(1, 7), chance.randint(0, 8)))
            for _ in range(chance.choice((1, 1, 1, 2))):
                text = changed_text(chance, text)
            wrong = oracles.wrong_line(text)
            if wrong is None:
                read += 1
                history = history_read(text)
                self.assertEqual(history_text(history), text)
                self.assertEqual(lets_history(history), len(history[1]))
            else:
                fields.add(wrong[1])
                self.refuses(text, *wrong)
        self.assertGreater(read, 100)
        self.assertEqual(fields, {0, 1, 2, 3, 4})

    def test_arguments_by_name(self):
        self.assertEqual(history_read(text="place a 1"), ((("a", 1),), ()))


if __name__ == "__main__":
    unittest.main()
