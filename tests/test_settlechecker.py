import copy
import random
import unittest

from mixedbags.errors import BagsError, InvalidPaper, PaperError, UnknownName
from mixedbags.settlechecker import lets_answers, lets_plan
from mixedbags.settlepapers import answer_paper, plan_paper
from mixedbags.settling import fewest_looks
from tests import last_oracles, oracles
from tests.support import (
    CLASHING, EMPTY, HISTORY, ODD_VALUES, SIXTY, changed, names_of, outcome, paper_error, random_course,
    random_level_prices, same, zero_prices,
)
from tests.test_settling import FREE, NAMES, settling_cases, statement_errors

FLAT = ((0, 0),) * 4
UNEVEN = ((1, 0), (0, 0), (0, 0), (0, 0))
PLAN = ("look", "a", ("less", FLAT), ("yes", FLAT, FLAT))
WITHIN = (("a", "c"),) * 5
OUTSIDE = (("a", "c"), ("b", "c")) + (("b", "d"),) * 3
BARE = (FREE[0][:3], ())


class PlanCheckerTest(unittest.TestCase):
    def reason(self, thing, trusted=(2, 3), history=HISTORY, places=("a",), low=1, high=1):
        """Why the value is refused, by the checker and the oracle, or None."""
        expected = last_oracles.plan_reason(history, trusted, places, low, high, thing)
        found = outcome(lets_plan, history, trusted, places, low, high, thing)
        right = ("returns", last_oracles.plan_depth(thing)) if expected is None else paper_error(*expected)
        self.assertTrue(same(found, right), thing)
        return expected

    def refuses(self, thing, word, at, **named):
        self.assertEqual(self.reason(thing, **named), (word, at), thing)

    def test_example(self):
        self.assertTrue(same(lets_plan(HISTORY, (2, 3), ("a",), 1, 1, PLAN), 1))

    def test_shape(self):
        for thing in ODD_VALUES:
            self.refuses(thing, "shape", -1)
            for part in ((thing, FLAT), ("look", "a", thing, PLAN[3]), ("look", "a", PLAN[2], thing), ("less", FLAT, thing),
                         ("yes", FLAT, FLAT, thing), (thing, FLAT, FLAT), PLAN + (thing,), (thing,) + PLAN[1:]):
                if not last_oracles.is_plan_shape(part):
                    self.refuses(part, "shape", -1)
            if not oracles.is_name(thing):
                self.refuses(("look", thing, *PLAN[2:]), "shape", -1)
        for thing in (list(PLAN), ("look", "a", ["less", FLAT], PLAN[3]), ("look", "a", PLAN[2]), ("look", "A", *PLAN[2:]),
                      ("yes", FLAT), ("less",), ("greater", FLAT, FLAT), ("never",), ("clash", "a", -1, 0), ("no", FLAT),
                      ("look",), ("fix", "a", *PLAN[2:]), ("above", FLAT), ("Yes", FLAT, FLAT), ("look", "a", PLAN[2], ()),
                      ("look", "a", PLAN[2], ("look", "b", PLAN[2], ("yes", FLAT)))):
            self.refuses(thing, "shape", -1)

    def test_any_values_in_leaves(self):
        for thing in ODD_VALUES:
            for word in ("less", "greater", "never"):
                self.refuses((word, thing), "prices", 0)
                self.refuses(("look", "a", (word, thing), PLAN[3]), "prices", 1)
            self.refuses(("yes", thing, FLAT), "prices", 0)
            self.refuses(("look", "a", PLAN[2], ("yes", FLAT, thing)), "prices", 2)
            self.refuses(("clash", thing), "clash", 0)

    def test_looks(self):
        for place in ("h", "aa", "e"):
            self.refuses(("look", place, *PLAN[2:]), "look", 0)
            self.refuses(("look", "a", PLAN[2], ("look", place, *PLAN[2:])), "look", 2)
            self.refuses(("look", "b", ("look", place, *PLAN[2:]), PLAN), "look", 1)
        self.refuses(("look", "a", PLAN, PLAN[3]), "look", 1)
        self.refuses(("look", "a", PLAN[2], PLAN), "look", 2)
        self.refuses(("look", "a", PLAN[2], ("look", "b", PLAN[3], PLAN)), "look", 4)
        # The same place may be looked at on two ways.
        self.assertIsNone(self.reason(("look", "d", PLAN, PLAN)))
        self.assertIsNone(self.reason(("look", "b", PLAN, ("look", "c", PLAN, PLAN))))

    def test_an_answer_holds_for_all_nodes_below_it(self):
        self.assertIsNone(self.reason(("look", "a", ("look", "b", PLAN[2], PLAN[2]), PLAN[3])))
        self.refuses(("look", "a", ("look", "b", PLAN[3], PLAN[2]), PLAN[3]), "bound", 2)
        self.refuses(("look", "b", PLAN, PLAN[3]), "bound", 4)
        self.refuses(("look", "a", PLAN[3], PLAN[2]), "bound", 1)

    def test_a_plan_with_seven_looks(self):
        def plan_of(names, many=0):
            if not names:
                leaf = ("less",) if many < 3 else ("yes", ()) if many < 5 else ("greater",)
                return (*leaf, ())
            return ("look", names[0], plan_of(names[1:], many), plan_of(names[1:], many + 1))
        asked = {"trusted": (), "history": FREE, "places": NAMES, "low": 3, "high": 4}
        self.assertIsNone(self.reason(plan_of(NAMES), **asked))
        self.refuses(plan_of(NAMES + ("a",)), "look", 7, **asked)
        # Without a look at g, the first leaf with two marked places is the second one with e marked.
        self.refuses(plan_of(NAMES[:6]), "bound", 10, **asked)
        # The nodes 3 to 33 have c plain, 35 to 49 have d plain, 51 to 57 e, 59 to 61 f, and 64 has c to g marked.
        self.refuses(plan_of(NAMES), "bound", 64, **{**asked, "high": 5})

    def test_clashes(self):
        asked = {"trusted": (0,), "history": CLASHING}
        self.assertIsNone(self.reason(("clash", ("a", -1, 1)), **asked))
        self.assertIsNone(self.reason(("look", "c", ("clash", ("c", -1, 3)), ("clash", ("a", -1, 1))), **asked))
        for stretch in (("a", 1, 3), ("b", -1, 1), ("a", -1, 3), ("e", -1, 1), ("a", 1, 1), ["a", -1, 1], ("a", True, 3),
                        ("a", -1, True), ("a", -1), ("a", -1, 1, 1), (1, -1, "a"), ("a", SIXTY, 1), (["a"], -1, 1)):
            self.refuses(("clash", stretch), "clash", 0, **asked)

    def test_answers_that_leave_no_mark(self):
        # Without events the places keep the marks of the start.
        history = ((("a", 1), ("b", None)), ())
        asked = {"trusted": (), "history": history, "places": ("a", "b"), "low": 2, "high": 2}
        clash = ("clash", ("a", -1, 0))
        self.assertIsNone(self.reason(("look", "a", clash, ("look", "b", ("less", ()), ("yes", (), ()))), **asked))
        self.refuses(("look", "a", ("less", ()), ("yes", (), ())), "bound", 1, **asked)
        self.refuses(("look", "a", ("never", ()), ("yes", (), ())), "bound", 1, **asked)
        self.refuses(("look", "a", clash, clash), "clash", 2, **asked)
        self.refuses(("look", "b", clash, ("yes", (), ())), "clash", 1, **asked)
        # Only the stretches that end at the last moment are answered.
        mixed = (history[0], (("mix", "ann", ("a", "b")),))
        self.refuses(("look", "a", ("clash", ("a", -1, 0)), ("less", ((0, 0),))), "clash", 1, **{**asked, "history": mixed})

    def test_prices_before_bounds(self):
        for prices in (UNEVEN, FLAT[:3], FLAT + (None,), list(FLAT), FLAT[:3] + ((0, True),), (None,) * 4, None):
            for leaf in (("less", prices), ("greater", prices), ("never", prices), ("yes", prices, FLAT), ("yes", FLAT, prices)):
                self.refuses(leaf, "prices", 0)
                self.refuses(("look", "a", PLAN[2], leaf), "prices", 2)
        # Both prices are ahead of any bound, whether it is wrong or does not exist.
        self.refuses(("yes", ((9, 9), (0, 0), (0, 0), (0, 0)), UNEVEN), "prices", 0)
        self.refuses(("yes", (None, (0, 0), None), (None, (0, 1), None)), "prices", 0, trusted=(0,), history=CLASHING)
        for leaf in (("yes", (None, (0, 0), None), (None, (0, 0), None)), ("less", (None, (0, 0), None)),
                     ("greater", (None, (0, 0), None)), ("never", (None, (0, 0), None))):
            self.refuses(leaf, "bound", 0, trusted=(0,), history=CLASHING)
            self.refuses(leaf, "bound", 0, trusted=(0,), history=CLASHING, low=-SIXTY, high=SIXTY)

    def test_bounds(self):
        asked = {"trusted": (), "history": BARE, "places": ("a", "b", "c")}
        for leaf, low, high, is_right in (
                (("yes", (), ()), 0, 3, True), (("yes", (), ()), -1, SIXTY, True), (("yes", (), ()), 1, 3, False),
                (("yes", (), ()), 0, 2, False), (("less", ()), 4, 4, True), (("less", ()), 3, 4, False),
                (("greater", ()), -9, -1, True), (("greater", ()), -1, 0, False), (("never", ()), 0, 3, False)):
            self.assertIs(self.reason(leaf, low=low, high=high, **asked) is None, is_right)

    def test_never(self):
        prices = plan_paper(EMPTY, (1,), ("a",), 0, 0)[1]
        self.assertIsNone(self.reason(("never", prices), trusted=(1,), history=EMPTY))
        self.refuses(("never", zero_prices(EMPTY)), "bound", 0, trusted=(1,), history=EMPTY)
        self.refuses(("never", prices), "bound", 0, trusted=(), history=EMPTY)

    def test_plans_with_parts_replaced(self):
        chance = random.Random(73)
        seen = {}
        for history, trusted, places, low, high in settling_cases(2500):
            plan = plan_paper(history, trusted, places, low, high)
            thing = self.replaced(chance, history, plan)
            before = copy.deepcopy(thing)
            reason = self.reason(thing, trusted, history, places, low, high)
            self.assertTrue(same(thing, before))
            if reason is None:
                self.assertGreaterEqual(last_oracles.plan_depth(thing), fewest_looks(history, trusted, places, low, high))
            seen[reason and reason[0]] = seen.get(reason and reason[0], 0) + 1
        self.assertEqual({word for word in seen if seen[word] > 4}, {None, "shape", "look", "clash", "prices", "bound"})

    def replaced(self, chance, history, plan):
        for _ in range(chance.choice((1, 2))):
            plan = changed(chance, plan, 1) if chance.random() < 0.3 else self.replaced_node(chance, history, plan)
            if not last_oracles.is_plan_shape(plan):
                return plan
        return plan

    def replaced_node(self, chance, history, plan):
        if plan[0] == "look" and chance.random() < 0.7:
            at = chance.choice((2, 3))
            return plan[:at] + (self.replaced_node(chance, history, plan[at]),) + plan[at + 1:]
        prices = chance.choice((random_level_prices(chance, history), zero_prices(history), plan[1]))
        leaf = chance.choice((("less", prices), ("greater", prices), ("never", prices), ("yes", prices, plan[-1]),
                              ("yes", prices, prices), ("clash", chance.choice(oracles.slow_stretches(history)))))
        name = chance.choice(names_of(history))
        return chance.choice((leaf, ("look", name, plan, plan), ("look", name, leaf, plan), (*plan[:2], *plan[:1:-1])))

    def test_errors(self):
        for thing in (None, PLAN):
            for found, expected in statement_errors(lambda h, t, p: lets_plan(h, t, p, 1, 1, thing), HISTORY):
                self.assertTrue(same(found, expected))

    def test_families_and_names(self):
        for kind in (InvalidPaper, PaperError, BagsError):
            with self.assertRaises(kind):
                lets_plan(HISTORY, (), (), 0, 0, None)
        named = {"thing": PLAN, "high": 1, "low": 1, "places": ("a",), "trusted": (2, 3), "history": HISTORY}
        self.assertEqual(lets_plan(**named), 1)


class AnswerCheckerTest(unittest.TestCase):
    def reason(self, thing, size=0, trusted=(2, 3), history=HISTORY, places=("a",), low=1, high=1):
        """Why the value is refused, by the checker and the oracle, or None."""
        expected = last_oracles.table_reason(history, trusted, places, low, high, size, thing)
        found = outcome(lets_answers, history, trusted, places, low, high, size, thing)
        self.assertTrue(same(found, ("returns", len(thing)) if expected is None else paper_error(*expected)), thing)
        return expected

    def refuses(self, thing, word, at, **named):
        self.assertEqual(self.reason(thing, **named), (word, at), thing)

    def table(self, rows):
        """A table of the bare history: answers, the states of both courses, and marks."""
        return tuple((answers, (within,), (outside,), marks) for answers, within, outside, marks in rows)

    def bare(self, thing, size=1, low=2):
        return self.reason(thing, size, (), BARE, ("a", "b", "c"), low, 3)

    def test_example(self):
        found = lets_answers(HISTORY, (2, 3), ("a",), 1, 1, 0, (((), WITHIN, OUTSIDE, ()),))
        self.assertTrue(same(found, 1))

    def test_shape(self):
        row = ((), WITHIN, OUTSIDE, ())
        for thing in ODD_VALUES:
            if thing != ():
                self.refuses(thing, "shape", -1)
            self.refuses((row, thing), "shape", -1)
            for at in range(4):
                part = row[:at] + (thing,) + row[at + 1:]
                if not last_oracles.is_row_shape(part):
                    self.refuses((part,), "shape", -1)
                    self.refuses((row, part), "shape", -1)
            self.refuses((row + (thing,),), "shape", -1)
            if thing != ("a", 1):
                self.refuses((((thing,), *row[1:]),), "shape", -1)
        for part in ((("a", True),), (("a", 2),), (("a", None),), (("a", 1, 0),), (["a", 1],), [("a", 1)], (("A", 1),)):
            self.refuses(((part, *row[1:]),), "shape", -1)
        for part in ((True,), (2,), (None,), [0], (0, "1"), 0):
            self.refuses(((*row[:3], part),), "shape", -1)
        self.refuses([row], "shape", -1)
        self.refuses((list(row),), "shape", -1)
        self.refuses((((), list(WITHIN), OUTSIDE, ()),), "shape", -1)
        self.refuses((((), WITHIN, (["a", "c"],) * 5, ()),), "shape", -1)

    def test_first(self):
        self.refuses((), "first", -1)
        self.refuses((((("a", 1),), WITHIN, OUTSIDE, ()),), "first", -1)
        self.refuses((((("a", 1),), (), (), ()), ((), WITHIN, OUTSIDE, ())), "first", -1, size=2)

    def test_within_and_outside(self):
        for course in (WITHIN[:4], WITHIN * 2, (), (("c", "a"),) * 5, (("a", "h"),) * 5, (("a", "c"),) * 2 + (("a", "d"),) * 3, OUTSIDE):
            self.refuses((((), course, OUTSIDE, ()),), "within", 0)
            self.refuses((((), course, course, (1,)),), "within", 0)
        for course in (OUTSIDE[:4], (), WITHIN, (("b", "d"),) * 5):
            self.refuses((((), WITHIN, course, ()),), "outside", 0)
            self.refuses((((), WITHIN, course, (1,)),), "outside", 0)
        self.assertIsNone(self.reason((((), OUTSIDE, WITHIN, ()),), low=-1, high=0))

    def test_answers(self):
        full, none, two = ("a", "b", "c"), (), ("a", "b")
        base = ((), two, none, (1, 1, 1))
        a, b, c = ((("a", 1),), two, ("a",), ()), ((("b", 1),), two, ("b",), ()), ((("c", 1),), full, ("c",), ())
        self.assertIsNone(self.bare(self.table((base, a, b, c))))
        self.assertEqual(self.bare(self.table((base, a, c, b))), ("answers", 3))
        self.assertEqual(self.bare(self.table((base, b, a, c))), ("answers", 2))
        self.assertEqual(self.bare(self.table((base, a, a, b, c))), ("answers", 2))
        self.assertEqual(self.bare(self.table((base, base, a, b, c))), ("answers", 1))
        self.assertEqual(self.bare(self.table((base, a, b, c, ((("d", 1),), full, ("a",), ())))), ("answers", 4))
        for answers, size in (((("a", 0), ("a", 1)), 2), ((("b", 1), ("a", 1)), 2), ((("a", 0), ("b", 1)), 1), ((("h", 1),), 2),
                              ((("a", 0), ("h", 1)), 2), ((("a", 0), ("b", 1), ("c", 1)), 2), ((("a", 0), ("a", 0)), 3)):
            self.assertEqual(self.bare(self.table((base, (answers, full, ("a",), ()), a, b, c)), size=size), ("answers", 1))
        self.assertEqual(self.bare(self.table((((), two, none, ()),)), size=0), None)
        self.assertEqual(self.bare(self.table((((), two, none, ()), a)), size=0), ("answers", 1))

    def test_more_rows_than_needed(self):
        full, none, two = ("a", "b", "c"), (), ("a", "b")
        rows = [((), two, none, (1, 1, 1))]
        rows += [(((name, 1),), full, (name,), ()) for name in "abc"]
        rows.append(((("a", 0),), ("b", "c"), none, ()))
        self.assertIsNone(self.bare(self.table(sorted(rows))))

    def test_answers_of_courses(self):
        full, none, two = ("a", "b", "c"), (), ("a", "b")
        base = ((), two, none, (1, 1, 0))
        a, b, c = ((("a", 1),), two, ("a",), ()), ((("b", 1),), two, ("b",), ()), ((("c", 0),), two, none, ())
        self.assertIsNone(self.bare(self.table((base, a, b, c))))
        for at, part, word in ((1, ("b", "c"), "within"), (2, ("a", "c"), "within"), (3, full, "within")):
            rows = [base, a, b, c]
            rows[at] = (rows[at][0], part, *rows[at][2:])
            self.assertEqual(self.bare(self.table(rows)), (word, at))
        for at, part, word in ((1, ("b",), "outside"), (2, none, "outside"), (3, ("c",), "outside"), (2, full, "outside")):
            rows = [base, a, b, c]
            rows[at] = (*rows[at][:2], part, rows[at][3])
            self.assertEqual(self.bare(self.table(rows)), (word, at))

    def test_marks(self):
        two, none = ("a", "b"), ()
        a, b, c = ((("a", 1),), two, ("a",), ()), ((("b", 1),), two, ("b",), ()), ((("c", 0),), two, none, ())
        for marks in ((), (1,), (1, 1), (1, 1, 1), (0, 1, 0), (1, 0, 0), (1, 1, 0, 0)):
            self.assertEqual(self.bare(self.table((((), two, none, marks), a, b, c))), ("marks", 0))
        base = ((), two, none, (1, 1, 0))
        for marks in ((0,), (1, 1)):
            self.assertEqual(self.bare(self.table((base, a, (*b[:3], marks), c))), ("marks", 2))
        self.assertEqual(self.bare(self.table((base, a, b, c)), size=2), ("marks", 1))
        self.assertEqual(self.bare(self.table((base, a, b, c)), size=0), ("marks", 0))
        self.assertEqual(self.bare(self.table((base, a, b))), ("marks", 0))

    def test_sizes_beyond_the_places(self):
        table = answer_paper(BARE, (), ("a", "b", "c"), 1, 3, 2)
        self.assertIsNone(self.bare(table, 2, 1))
        for size in (3, 4, SIXTY):
            self.assertIsNotNone(self.bare(table, size, 1))

    def test_tables_with_parts_replaced(self):
        chance = random.Random(74)
        seen = {}
        for history, trusted, places, low, high in settling_cases(2500):
            fewest = fewest_looks(history, trusted, places, low, high)
            if fewest == 0:
                continue
            size = chance.randrange(fewest)
            table = answer_paper(history, trusted, places, low, high, size)
            thing = self.replaced(chance, history, trusted, table)
            asked = chance.choice((size, size, size, size + 1, max(size - 1, 0)))
            before = copy.deepcopy(thing)
            reason = self.reason(thing, asked, trusted, history, places, low, high)
            self.assertTrue(same(thing, before))
            if reason is None:
                self.assertLess(asked, fewest)
            seen[reason and reason[0]] = seen.get(reason and reason[0], 0) + 1
        words = {None, "shape", "first", "answers", "within", "outside", "marks"}
        self.assertEqual({word for word in seen if seen[word] > 4}, words)

    def replaced(self, chance, history, trusted, table):
        rows = list(table)
        for _ in range(chance.choice((1, 2))):
            if not rows:
                break
            way, at = chance.randrange(7), chance.randrange(len(rows))
            if way == 0:
                return changed(chance, tuple(rows), 1)
            if way == 1:
                del rows[at]
            elif way == 2:
                rows.insert(chance.randrange(len(rows) + 1), rows[at])
            elif way == 3:
                other = chance.randrange(len(rows))
                rows[at], rows[other] = rows[other], rows[at]
            else:
                rows[at] = self.replaced_row(chance, history, trusted, rows[at])
        return tuple(rows)

    def replaced_row(self, chance, history, trusted, row):
        answers, within, outside, marks = row
        course = random_course(chance.random(), history, chance.choice(((), trusted)))
        return chance.choice((
            (answers, course, outside, marks), (answers, within, course, marks), (answers, outside, within, marks),
            (answers, within, outside, marks[1:]), (answers, within, outside, tuple(1 - mark for mark in marks)),
            (answers[1:], within, outside, marks), (answers[::-1], within, outside, marks),
            (answers + ((chance.choice("abz"), chance.choice((0, 1))),), within, outside, marks)))

    def test_errors(self):
        for thing in (None, (((), WITHIN, OUTSIDE, ()),)):
            for found, expected in statement_errors(lambda h, t, p: lets_answers(h, t, p, 1, 1, 0, thing), HISTORY):
                self.assertTrue(same(found, expected))

    def test_families_and_names(self):
        for kind in (InvalidPaper, PaperError, BagsError):
            with self.assertRaises(kind):
                lets_answers(HISTORY, (), (), 0, 0, 0, None)
        with self.assertRaises(UnknownName):
            lets_answers(HISTORY, (0,), ("h",), 0, 0, 0, None)
        named = {"thing": (((), WITHIN, OUTSIDE, ()),), "size": 0, "high": 1, "low": 1, "places": ("a",), "trusted": (2, 3),
                 "history": HISTORY}
        self.assertEqual(lets_answers(**named), 1)


if __name__ == "__main__":
    unittest.main()
