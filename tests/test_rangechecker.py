import copy
import random
import unittest

from mixedbags.errors import BagsError, InvalidPaper, MomentOutOfRange, PaperError
from mixedbags.rangechecker import lets_range
from mixedbags.rangepapers import range_paper
from tests import oracles
from tests.support import (
    CLASHING, EMPTY, HISTORY, ODD_VALUES, SIXTY, START, changed, outcome, paper_error, question_errors, random_course,
    random_history, random_level_prices, random_question, random_trusted, reports_in, same, zero_prices,
)

COURSE = (("a", "c"),) * 5
OTHER = (("a", "c"), ("b", "c"), ("b", "d"), ("b", "d"), ("b", "d"))
ZERO = ((0, 0), (0, 0), (0, 0), (0, 0))
LEVEL = ((1, 1), (0, 0), (0, 0), (0, 0))
UNEVEN = ((1, 0), (0, 0), (0, 0), (0, 0))
PAPER = ("range", COURSE, LEVEL, COURSE, LEVEL)


class RangeCheckerTest(unittest.TestCase):
    def refuses(self, thing, word, at, history=HISTORY, trusted=(), moment=2, places=("a", "b")):
        found = outcome(lets_range, history, trusted, moment, places, thing)
        self.assertEqual(found, paper_error(word, at), thing)

    def test_examples(self):
        self.assertTrue(same(lets_range(HISTORY, (), 2, ("a", "b"), PAPER), (1, 1)))
        self.refuses(("none", LEVEL), "bound", 0)

    def test_shape(self):
        for thing in ODD_VALUES:
            self.refuses(thing, "shape", -1)
            for at in range(1, 5):
                part = PAPER[:at] + (thing,) + PAPER[at + 1:]
                if not oracles.is_range_shape(part):
                    self.refuses(part, "shape", -1)
            if not oracles.is_price_tuple(thing):
                self.refuses(("none", thing), "shape", -1)
            self.refuses(("clash", thing), "shape", -1)
            self.refuses((thing,) + PAPER[1:], "shape", -1) if thing != "range" else None
        for thing in (PAPER[:4], PAPER + (LEVEL,), list(PAPER), ("range",), ("none",), ("clash",), ("none", ZERO, ZERO),
                      ("none", COURSE, ZERO, COURSE, ZERO), ("range", ZERO), ["none", ZERO], (["none"], ZERO),
                      ("within", ZERO, ZERO), ("range", ("a", -1, 0)), ("clash", ZERO), ("clash", ("a", -1, 0), 1)):
            self.refuses(thing, "shape", -1)

    def test_shapes_of_prices(self):
        for prices in (list(ZERO), ((0, 0), [0, 0]), ((0, True),), (0,), ("",), ((0, None),), None, ((0, "0"),), (False,)):
            self.refuses(("none", prices), "shape", -1)
            self.refuses(PAPER[:4] + (prices,), "shape", -1)
            self.refuses(PAPER[:2] + (prices,) + PAPER[3:], "shape", -1)
        for prices in ((), (None,), ((),), (None,) * 4, ((0, 0), (0, 0), (0, 0)), ((SIXTY,), (), None, (0, 0, 0))):
            self.refuses(("none", prices), "prices", 0)

    def test_shapes_of_stretches(self):
        for stretch in (("a", -1), ("a", -1, 0, 0), ["a", -1, 0], ("A", -1, 0), ("a", False, True), ("a", None, 0), (0, -1, 0),
                        ("a", "-1", 0), ("a", -1, True), ("", -1, 0)):
            self.refuses(("clash", stretch), "shape", -1, CLASHING, (0,))

    def test_courses_before_prices_before_bounds(self):
        wrong = (("a",),) * 5
        self.refuses(("range", wrong, UNEVEN, wrong, UNEVEN), "course", 0)
        self.refuses(("range", COURSE, UNEVEN, wrong, UNEVEN), "course", 1)
        self.refuses(("range", COURSE, UNEVEN, COURSE, ()), "prices", 0)
        self.refuses(("range", COURSE, ZERO, COURSE, UNEVEN), "prices", 1)
        self.refuses(("range", COURSE, ZERO, COURSE, ()), "prices", 1)
        self.refuses(("range", COURSE, ZERO, COURSE, ZERO), "bound", 0)
        self.refuses(("range", COURSE, LEVEL, COURSE, ZERO), "bound", 1)
        self.refuses(("range", (), LEVEL, COURSE, LEVEL), "course", 0)
        self.refuses(("range", COURSE, LEVEL, (("z",),) * 5, LEVEL), "course", 1)

    def test_courses_agree_with_the_trusted_reports(self):
        history = (START, (("look", "cy", "a", 1), ("look", "cy", "a", 0)))
        still = (("a", "c"),) * 3
        paper = ("range", still, (None, None), still, (None, None))
        self.assertEqual(lets_range(history, (0,), 1, ("a", "b"), paper), (1, 1))
        self.refuses(paper, "course", 0, history, (1,), 1)

    def test_a_correct_course_is_not_enough(self):
        self.refuses(("range", COURSE, ZERO, OTHER, ZERO), "bound", 0, places=("a",))
        self.refuses(("range", OTHER, ZERO, OTHER, ZERO), "bound", 1, places=("a",))
        self.assertEqual(lets_range(HISTORY, (), 2, ("a",), ("range", OTHER, ZERO, COURSE, ZERO)), (0, 1))

    def test_none(self):
        prices = range_paper(EMPTY, (1,), 0, ())
        self.assertEqual(prices[0], "none")
        self.assertIsNone(lets_range(EMPTY, (1,), 2, ("a",), prices))
        self.refuses(prices, "bound", 0, EMPTY, (), 2, ("a",))
        self.refuses(("none", ((0, 0), (0, 0))), "bound", 0, EMPTY, (1,), 2, ("a",))
        self.refuses(("none", ((0, 1), (0, 0))), "prices", 0, EMPTY, (1,), 2, ("a",))
        self.refuses(("none", ((0, 0), (0, 0, 0))), "prices", 0, EMPTY, (1,), 2, ("a",))

    def test_none_asks_without_the_places(self):
        # The question with its places has a lower bound above 0, the one without places has not.
        self.refuses(("none", ZERO), "bound", 0, moment=0, places=("a", "c"))

    def test_none_without_any_bound(self):
        self.refuses(("none", (None, (0, 0), None)), "bound", 0, CLASHING, (0,))
        self.refuses(("none", (None, (0, 1), None)), "prices", 0, CLASHING, (0,))

    def test_clash(self):
        self.assertIsNone(lets_range(CLASHING, (0,), 2, ("a",), ("clash", ("a", -1, 1))))
        self.refuses(("clash", ("a", -1, 1)), "marks", -1, CLASHING, ())
        self.refuses(("clash", ("a", 1, 3)), "marks", -1, CLASHING, (0, 2))
        for stretch in (("a", 1, 1), ("a", 1, -1), ("a", 3, 1), ("e", -1, 1), ("a", -1, 3), ("a", 0, 1), ("a", -1, 0),
                        ("a", SIXTY, -SIXTY), ("c", -1, 1), ("a", -2, 1)):
            self.refuses(("clash", stretch), "stretch", -1, CLASHING, (0,))

    def test_prices_of_sixty_digits(self):
        big = ((SIXTY,) * 2, (0, 0), (0, 0), (0, 0))
        self.refuses(("range", COURSE, big, COURSE, LEVEL), "bound", 0)
        self.refuses(("none", big), "bound", 0)

    def test_papers_with_parts_replaced(self):
        chance = random.Random(20)
        seen = set()
        for seed in range(4000):
            history = random_history(seed, chance.randint(1, 5), chance.randint(0, 6))
            trusted = chance.choice((reports_in(history), (), random_trusted(seed, history)))
            moment, places = random_question(chance, history)
            paper = range_paper(history, trusted, moment, places)
            thing = self.replaced(chance, seed, history, trusted, paper)
            before = copy.deepcopy(thing)
            reason = oracles.range_reason(history, trusted, moment, places, thing)
            found = outcome(lets_range, history, trusted, moment, places, thing)
            if reason is not None:
                self.assertEqual(found, paper_error(*reason), thing)
            elif thing[0] == "range":
                numbers = tuple(len(set(course[moment]) & set(places)) for course in thing[1::2])
                self.assertEqual(found, ("returns", numbers))
                self.assertEqual(lets_range(history, trusted, moment, places, paper), numbers)
            else:
                self.assertEqual(found, ("returns", None))
                self.assertIn(paper[0], ("none", "clash"))
            self.assertTrue(same(thing, before))
            seen.add(reason)
        reasons = {None, ("shape", -1), ("stretch", -1), ("marks", -1)}
        self.assertEqual(seen, reasons | {(word, at) for word in ("course", "prices", "bound") for at in (0, 1)})

    def replaced(self, chance, seed, history, trusted, paper):
        parts = list(paper)
        way = chance.randrange(4)
        if way == 0:
            return changed(chance, paper, chance.choice((1, 2)))
        if way == 1:
            stretch = chance.choice(oracles.slow_stretches(history))
            return chance.choice((("none", zero_prices(history)), ("none", random_level_prices(chance, history)),
                                  ("clash", stretch), ("clash", changed(chance, stretch, 1))))
        for _ in range(chance.choice((1, 2))):
            at = chance.randrange(1, len(parts))
            if parts[0] == "clash":
                parts[at] = chance.choice(oracles.slow_stretches(history))
            elif parts[0] == "range" and at % 2:
                parts[at] = random_course(seed, history, chance.choice(((), trusted)))
            else:
                prices = random_level_prices(chance, history)
                parts[at] = chance.choice((prices, prices, zero_prices(history), changed(chance, prices, 1)))
        return tuple(parts)

    def test_never_both_kinds(self):
        chance = random.Random(21)
        for seed in range(300):
            history = random_history(seed, chance.randint(1, 4), chance.randint(0, 6))
            trusted = random_trusted(seed, history)
            moment, places = random_question(chance, history)
            paper = range_paper(history, trusted, moment, places)
            for _ in range(5):
                none = ("none", random_level_prices(chance, history))
                found = outcome(lets_range, history, trusted, moment, places, none)
                if paper[0] == "range":
                    self.assertEqual(found, paper_error("bound", 0))

    def test_errors_in_order(self):
        for thing in (None, PAPER, ("none", ())):
            for found, expected in question_errors(lambda t, m, p: lets_range(HISTORY, t, m, p, thing), HISTORY):
                self.assertEqual(found, expected)

    def test_families_and_names(self):
        for kind in (InvalidPaper, PaperError, BagsError):
            with self.assertRaises(kind):
                lets_range(HISTORY, (), 2, (), None)
        with self.assertRaises(MomentOutOfRange):
            lets_range(HISTORY, (), 5, (), None)
        named = {"thing": PAPER, "places": ("a", "b"), "moment": 2, "trusted": (), "history": HISTORY}
        self.assertEqual(lets_range(**named), (1, 1))


if __name__ == "__main__":
    unittest.main()
