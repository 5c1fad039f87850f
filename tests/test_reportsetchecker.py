import copy
import random
import unittest

from mixedbags.errors import BagsError, InvalidPaper, NotAReport, PaperError
from mixedbags.reportsetchecker import lets_report_set
from mixedbags.reportsetpapers import report_set_paper
from tests import oracles, paper_oracles
from tests.support import (
    CLASHING, HISTORY, ODD_VALUES, QUARREL, SIXTY, candidate_errors, changed, outcome, paper_error, random_course,
    random_level_prices, reports_in, same, telling_cases, zero_prices,
)

ZERO = ((0, 0), (0, 0), (0, 0), (0, 0))
COURSE = (("a", "c"),) * 5
# In this course b and c hold two marked bags before the pour, which the report 2 says are one.
TWO = (("a", "c"), ("b", "c"), ("b", "c"), ("b", "c"), ("b", "c"))
SURE = ((0, 0), (0, 0), (-1, 0), (0, 0))
PAPER = ((2,), ("within", SURE, SURE), (TWO,))
UNEVEN = ((1, 0), (0, 0), (0, 0), (0, 0))


class ReportSetCheckerTest(unittest.TestCase):
    def asked(self, low=1, high=1, candidates=(2, 3), trusted=(), history=HISTORY, moment=2, places=("b", "c")):
        return history, trusted, candidates, moment, places, low, high

    def refuses(self, thing, word, at, *args, **named):
        asked = self.asked(*args, **named)
        self.assertEqual(paper_oracles.set_reason(*asked, thing), (word, at), thing)
        self.assertEqual(outcome(lets_report_set, *asked, thing), paper_error(word, at), thing)

    def test_example(self):
        found = lets_report_set(HISTORY, (), (2, 3), 2, ("a", "b"), 0, 2, ((), ("within", ZERO, ZERO), ()))
        self.assertTrue(same(found, ()))

    def test_a_chosen_report(self):
        self.assertTrue(same(lets_report_set(*self.asked(), PAPER), (2,)))
        self.refuses(((2,), ("within", SURE, SURE), (COURSE,)), "number", 0)
        self.refuses(((2,), ("within", SURE, ZERO), (TWO,)), "bound", 1)
        self.refuses(((2,), ("within", ZERO, SURE), (TWO,)), "bound", 0)
        self.refuses(((), ("within", SURE, SURE), ()), "bound", 0)
        self.refuses(((2, 3), ("within", SURE, SURE), (TWO, TWO)), "course", 0)

    def test_shape(self):
        for thing in ODD_VALUES:
            self.refuses(thing, "shape", -1)
            for at in range(3):
                part = PAPER[:at] + (thing,) + PAPER[at + 1:]
                if not paper_oracles.is_set_shape(part):
                    self.refuses(part, "shape", -1)
        for thing in (PAPER[:2], PAPER + ((),), list(PAPER), ([2],) + PAPER[1:], ((True,),) + PAPER[1:],
                      ((-1,),) + PAPER[1:], (("2",),) + PAPER[1:], PAPER[:2] + ([TWO],), PAPER[:2] + (list(TWO),),
                      PAPER[:2] + (((("a", 1),),),), PAPER[:2] + (TWO,), PAPER[:2] + ((None,),)):
            self.refuses(thing, "shape", -1)

    def test_shapes_of_reasons(self):
        for reason in (("within", SURE), ("within", SURE, SURE, SURE), ["within", SURE, SURE], ("range", SURE, SURE),
                       ("within", list(SURE), SURE), ("within", SURE, ((0, True),)), ("none", SURE, SURE), ("none",),
                       ("clash", ("a", -1)), ("clash", ("a", -1, True)), ("clash", ["a", -1, 0]), ("within", SURE, None),
                       (SURE, SURE), (["within"], SURE, SURE), ("Within", SURE, SURE), ()):
            self.refuses(((2,), reason, (TWO,)), "shape", -1)

    def test_chosen(self):
        for chosen, at in (((1,), 0), ((4,), 0), ((3, 2), 1), ((2, 2), 1), ((2, 3, 3), 2), ((SIXTY,), 0), ((2, 0, 1), 1)):
            self.refuses((chosen, ("within", (), ()), ()), "chosen", at)
        self.refuses(((2, 3), ("none", ()), ()), "chosen", 1, candidates=(2,))
        self.refuses(((2,), ("none", ()), ()), "chosen", 0, candidates=())

    def test_order_of_the_reasons(self):
        for reason, at in ((("within", UNEVEN, UNEVEN), 0), (("within", ZERO, UNEVEN), 1), (("within", (), UNEVEN), 0),
                           (("within", ZERO, ZERO[:3]), 1), (("within", SURE, (None,) * 4), 1), (("none", UNEVEN), 0)):
            self.refuses(((2,), reason, ()), "prices", at)
        self.refuses(((2,), ("within", ZERO, ZERO), ()), "bound", 0)
        self.refuses(((2,), ("within", SURE, ZERO), ()), "bound", 1)
        self.refuses(((2,), ("none", ZERO), ()), "bound", 0)
        self.refuses(((2,), ("clash", ("a", -1, 1)), ()), "stretch", -1)
        self.refuses(((2,), ("clash", ("a", -1, 0)), ()), "marks", -1)
        self.refuses(((2,), ("within", SURE, SURE), ()), "many", -1)
        self.refuses(((2,), ("within", SURE, SURE), ((), ())), "many", -1)
        self.refuses(((2,), ("within", SURE, SURE), ((),)), "course", 0)
        self.refuses(((), ("within", ZERO, ZERO), (COURSE,)), "many", -1, 0, 2)

    def test_courses_one_after_another(self):
        history = QUARREL
        asked = self.asked(5, 5, (0, 1), (), history, 0, ("a",))
        paper = report_set_paper(*asked)
        self.assertEqual(paper[:2], ((0, 1), ("clash", ("a", -1, 2))))
        one, two = paper[2]
        self.assertEqual(lets_report_set(*asked, paper), (0, 1))
        for courses, word, at in (((two, one), "course", 0), ((one, one), "course", 1), ((one, ()), "course", 1),
                                  ((), "many", -1), ((one,), "many", -1), ((one, two, two), "many", -1)):
            self.refuses(paper[:2] + (courses,), word, at, 5, 5, (0, 1), (), history, 0, ("a",))
        # The number of a course is looked at before the next course.
        self.refuses(paper[:2] + ((one, ()),), "number", 0, 1, 1, (0, 1), (), history, 0, ("a",))
        self.refuses(paper[:2] + ((one, two),), "number", 1, 0, 0, (0, 1), (), history, 0, ("a",))

    def test_no_course(self):
        asked = self.asked(5, 5, (0, 1, 2), (), QUARREL, 0, ("a",))
        course = random_course(1, QUARREL, ())
        none = report_set_paper(*self.asked(5, 5, (2,), (), QUARREL, 0, ("a",)))
        self.assertEqual((none[0], none[1][0]), ((2,), "none"))
        self.assertEqual(lets_report_set(*asked, none), (2,))
        self.assertEqual(lets_report_set(*asked, ((2,), none[1], (course,))), (2,))
        self.refuses(((), none[1], ()), "bound", 0, 5, 5, (0, 1, 2), (), QUARREL, 0, ("a",))
        self.refuses(((), ("clash", ("a", -1, 2)), ()), "marks", -1, 5, 5, (0, 1, 2), (1,), QUARREL, 0, ("a",))
        self.refuses(((0,), ("clash", ("a", -1, 2)), ()), "many", -1, 5, 5, (0, 1, 2), (1,), QUARREL, 0, ("a",))

    def test_within_without_any_bound(self):
        prices = (None, (0, 0), None)
        for trusted in ((0,), (0, 2)):
            self.refuses(((), ("within", prices, prices), ()), "bound", 0, 0, 4, (0,), trusted, CLASHING, 0, ("a",))
        self.assertEqual(
            lets_report_set(*self.asked(0, 4, (0,), (), CLASHING, 0, ("a",)), ((), ("within", prices, prices), ())), ())

    def test_a_trusted_report_is_not_minimal(self):
        for courses in ((COURSE,), (TWO,)):
            found = outcome(lets_report_set, *self.asked(trusted=(2,)), ((2,), ("within", SURE, SURE), courses))
            self.assertEqual(found[0], "InvalidPaper")
        self.assertEqual(lets_report_set(*self.asked(trusted=(2,)), ((), ("within", SURE, SURE), ())), ())

    def test_papers_with_parts_replaced(self):
        chance = random.Random(34)
        seen = {}
        for seed in range(3):
            for history, trusted, moment, places in telling_cases(900):
                low = chance.randint(0, len(places))
                high = low + chance.choice((0, 0, 1, -1))
                candidates = reports_in(history)[:8]
                asked = (history, trusted, candidates, moment, places, low, high)
                paper = report_set_paper(*asked) or ((), ("within", zero_prices(history), zero_prices(history)), ())
                thing = self.replaced(chance, seed, history, trusted, paper)
                before = copy.deepcopy(thing)
                reason = paper_oracles.set_reason(*asked, thing)
                expected = ("returns", thing[0]) if reason is None else paper_error(*reason)
                self.assertEqual(outcome(lets_report_set, *asked, thing), expected)
                self.assertTrue(same(thing, before))
                word = reason and reason[0]
                seen[word] = seen.get(word, 0) + 1
        words = {None, "shape", "chosen", "prices", "bound", "stretch", "marks", "many", "course", "number"}
        self.assertEqual({word for word in seen if seen[word] > 5}, words)

    def replaced(self, chance, seed, history, trusted, paper):
        chosen, reason, courses = paper
        reports = reports_in(history)
        for _ in range(chance.choice((1, 2))):
            way = chance.randrange(6)
            if way == 0:
                return changed(chance, paper, chance.choice((1, 2)))
            if way == 1:
                chosen = tuple(at for at in reports if chance.random() < 0.4)
                chosen = chosen if chance.random() < 0.6 else chosen[::-1] + (chance.randint(0, len(history[1])),)
            elif way == 2:
                prices = (random_level_prices(chance, history), zero_prices(history))
                reason = ("within", chance.choice(prices), chance.choice(prices))
            elif way == 3:
                reason = ("clash", chance.choice(oracles.slow_stretches(history)))
            elif way == 4:
                reason = (*reason[:1], *(changed(chance, part, 1) for part in reason[1:]))
            else:
                agreed = chance.choice(((), trusted, paper[0]))
                courses = tuple(random_course(chance.random(), history, agreed) for _ in chosen)
        return chosen, reason, courses

    def test_errors_in_order(self):
        for thing in (None, PAPER):
            def call(trusted, candidates, moment, places):
                return lets_report_set(HISTORY, trusted, candidates, moment, places, 1, 0, thing)
            for found, expected in candidate_errors(call, HISTORY):
                self.assertEqual(found, expected)

    def test_families_and_names(self):
        for kind in (InvalidPaper, PaperError, BagsError):
            with self.assertRaises(kind):
                lets_report_set(*self.asked(), None)
        with self.assertRaises(NotAReport):
            lets_report_set(*self.asked(candidates=(1,)), None)
        named = {"thing": PAPER, "high": 1, "low": 1, "places": ("b", "c"), "moment": 2, "candidates": (2, 3),
                 "trusted": (), "history": HISTORY}
        self.assertEqual(lets_report_set(**named), (2,))


if __name__ == "__main__":
    unittest.main()
