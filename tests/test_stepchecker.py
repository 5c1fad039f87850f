import copy
import random
import unittest

from mixedbags.errors import BagsError, InvalidPaper, PaperError, UnknownName
from mixedbags.stepchecker import lets_steps
from mixedbags.steppapers import step_paper
from tests import last_oracles, oracles
from tests.support import (
    HISTORY, ODD_VALUES, cases, changed, gap_cases, outcome, paper_error, possible_masks, random_course, same, states_in,
)
from tests.test_laststeps import FREE, step_errors

ONE, OTHER = ("a", "b"), ("c", "d")
TO_AB = (("a", "c"),) * 3 + (("a", "b"),) * 2
TO_AC = (("a", "c"),) * 5
TO_CD = (("a", "c"),) * 4 + (("c", "d"),)
TO_BD = (("a", "c"), ("b", "c")) + (("b", "d"),) * 3


class StepCheckerTest(unittest.TestCase):
    def reason(self, thing, one=ONE, other=OTHER, trusted=(2, 3), history=HISTORY):
        """Why the value is refused, by the checker and the oracle, or None."""
        expected = last_oracles.steps_reason(history, trusted, one, other, thing)
        found = outcome(lets_steps, history, trusted, one, other, thing)
        right = ("returns", len(thing) - 1) if expected is None else paper_error(*expected)
        self.assertTrue(same(found, right), thing)
        return expected

    def refuses(self, thing, word, at, **named):
        self.assertEqual(self.reason(thing, **named), (word, at), thing)

    def test_example(self):
        paper = step_paper(HISTORY, (2, 3), ONE, OTHER)
        self.assertTrue(same(lets_steps(HISTORY, (2, 3), ONE, OTHER, paper), 2))

    def test_several_rows_are_right(self):
        for middle in (TO_AC, TO_BD):
            self.assertIs(self.reason((TO_AB, middle, TO_CD)), None)
        self.assertIsNone(self.reason((TO_AC,), one=("a", "c"), other=("a", "c")))

    def test_shape(self):
        row = (TO_AB, TO_AC, TO_CD)
        for thing in ODD_VALUES:
            if not (type(thing) is tuple and thing and all(oracles.is_states(part) for part in thing)):
                self.refuses(thing, "shape", -1)
            if not oracles.is_states(thing):
                self.refuses(row + (thing,), "shape", -1)
                self.refuses((thing,) + row, "shape", -1)
        for thing in ((), [], list(row), (list(TO_AB), TO_AC, TO_CD), (TO_AB[:4] + (["a", "b"],), TO_AC, TO_CD), TO_AB,
                      (TO_AB, None), (TO_AB, (("a", 1),) * 5), (TO_AB, (("a", "B"),) * 5), (TO_AB, "ac"), ("a",), (row,)):
            self.refuses(thing, "shape", -1)

    def test_courses_come_before_steps(self):
        for course in ((), TO_AC[:4], TO_AC + TO_AC[:1], (("c", "a"),) * 5, (("a", "h"),) * 5, (("a",),) * 5, ((),) * 5,
                       (("a", "c"), ("a", "d"), ("a", "d"), ("a", "d"), ("a", "d")), TO_AC[:4] + (("a",),)):
            self.refuses((course,), "course", 0)
            self.refuses((TO_AB, course), "course", 1)
            self.refuses((TO_CD, TO_CD, course), "course", 2)
            self.refuses((TO_CD, course, course), "course", 1)
        # The reports 2 and 3 are trusted.
        wrong = (("a", "c"),) * 2 + (("a", "d"),) * 3
        self.refuses((TO_AB, wrong), "course", 1)

    def test_first_step_and_last(self):
        self.refuses((TO_AC, TO_CD), "first", -1)
        self.refuses((TO_CD, TO_CD), "first", -1)
        self.refuses((TO_AB, TO_CD), "step", 1)
        self.refuses((TO_AB, TO_AB, TO_AC, TO_CD), "step", 1)
        self.refuses((TO_AB, TO_AC, TO_BD, TO_CD), "step", 2)
        self.refuses((TO_AB, TO_AC, TO_AC), "step", 2)
        self.refuses((TO_AB, TO_AC, TO_AB, TO_CD), "step", 2)
        self.refuses((TO_AB,), "last", -1)
        self.refuses((TO_AB, TO_AC), "last", -1)
        self.refuses((TO_AB, TO_AC, TO_CD, TO_AC), "step", 3)
        self.refuses((TO_AB, TO_AC, TO_CD), "first", -1, one=("a", "c"))
        self.refuses((TO_AB, TO_AC, TO_CD), "step", 2, other=("a", "c"))
        self.refuses((TO_AB, TO_AC), "step", 1, other=("a", "b"))
        self.refuses((TO_AB, TO_AC), "step", 1, other=())
        self.refuses((TO_AB, TO_AC), "last", -1, other=("a", "c", "d"))
        # A mark that moves from one wrong place to another one comes no nearer.
        self.refuses((TO_AB, TO_AC), "step", 1, other=("d",))

    def test_marks_that_are_added_and_removed(self):
        def to(*states):
            return tuple((state,) for state in states)
        self.assertIsNone(self.reason(to((), ("a",), ("a", "b")), (), ("a", "b"), (), FREE))
        self.assertIsNone(self.reason(to(("a", "b"), ("b",), ()), ("a", "b"), (), (), FREE))
        self.assertIsNone(self.reason(to(("a", "b"), ("b", "c"), ("c",)), ("a", "b"), ("c",), (), FREE))
        self.refuses(to((), ("a", "b")), "step", 1, one=(), other=("a", "b"), trusted=(), history=FREE)
        self.refuses(to(("a", "b"), ()), "step", 1, one=("a", "b"), other=(), trusted=(), history=FREE)
        self.refuses(to(("a",), ("b", "c")), "step", 1, one=("a",), other=("b", "c"), trusted=(), history=FREE)
        self.refuses(to((), ("c",)), "step", 1, one=(), other=("a", "b"), trusted=(), history=FREE)

    def test_papers_with_parts_replaced(self):
        chance = random.Random(67)
        seen = {}
        asked = [(history, trusted) for history, trusted in cases(1500, most_places=4)]
        asked += [(history, trusted) for history, trusted, _, _ in gap_cases(700)]
        for history, trusted in asked:
            states = states_in(history, possible_masks(history, trusted)[-1])
            if not states:
                continue
            one, other = chance.choice(states), chance.choice(states)
            thing = self.replaced(chance, history, trusted, step_paper(history, trusted, one, other))
            before = copy.deepcopy(thing)
            reason = self.reason(thing, one, other, trusted, history)
            self.assertTrue(same(thing, before))
            seen[reason and reason[0]] = seen.get(reason and reason[0], 0) + 1
        self.assertEqual({word for word in seen if seen[word] > 4}, {None, "shape", "course", "first", "step", "last"})

    def replaced(self, chance, history, trusted, paper):
        for _ in range(chance.choice((1, 2))):
            if not paper:
                return paper
            at = chance.randrange(len(paper))
            way = chance.randrange(6)
            if way == 0:
                return changed(chance, paper, chance.choice((1, 2)))
            if way == 1:
                paper = paper[:at] + (random_course(chance.random(), history, trusted),) + paper[at + 1:]
            elif way == 2:
                paper = paper[:at] + paper[at + 1:]
            elif way == 3:
                paper = paper[:at] + (random_course(chance.random(), history, trusted),) + paper[at:]
            elif way == 4:
                paper = paper[::-1]
            else:
                paper = paper + (random_course(chance.random(), history, trusted),)
        return paper

    def test_errors(self):
        for thing in (None, (TO_AB, TO_AC, TO_CD)):
            for found, expected in step_errors(lambda h, t, a, b: lets_steps(h, t, a, b, thing), HISTORY):
                self.assertTrue(same(found, expected))

    def test_families_and_names(self):
        for kind in (InvalidPaper, PaperError, BagsError):
            with self.assertRaises(kind):
                lets_steps(HISTORY, (), (), (), None)
        with self.assertRaises(UnknownName):
            lets_steps(HISTORY, (0,), (), ("h",), None)
        named = {"thing": (TO_AB, TO_AC, TO_CD), "other": OTHER, "one": ONE, "trusted": (2, 3), "history": HISTORY}
        self.assertEqual(lets_steps(**named), 2)


if __name__ == "__main__":
    unittest.main()
