import random
import unittest

from mixedbags.coursechecker import lets_course
from mixedbags.moves import least_moved, moved_in
from mixedbags.movepapers import move_paper
from tests import paper_oracles
from tests.support import (
    BAD, EMPTY, HISTORY, ONE, PERSONS, SIXTY, cases, moving_history, outcome, random_course, random_history,
    random_trusted, reports_in, same, subsets,
)
from tests.totals import least_moves

COURSE = (("a", "c"), ("b", "c"), ("b", "d"), ("b", "d"), ("b", "d"))
SWAP = (
    (("a", 1), ("b", 1), ("c", 0), ("d", 0)),
    (("mix", "ann", tuple("abcd")), ("look", "cy", "c", 1), ("look", "cy", "d", 1)),
)


def moving_cases(count):
    """Histories with many mixes and, mostly, a course that agrees with the trusted reports."""
    for seed in range(count):
        chance = random.Random(seed)
        history = moving_history(seed)
        if seed % 4 == 0:
            history = random_history(seed, chance.randint(2, 5), chance.randint(2, 9), 0.2, ("mix", "mix", "pour", "look"))
        trusted = random_trusted(seed, history) if seed % 2 == 0 else reports_in(history)
        yield history, trusted, tuple(person for person in PERSONS if chance.random() < 0.8)


class MovedInTest(unittest.TestCase):
    def test_example(self):
        self.assertTrue(same(moved_in(HISTORY, COURSE, ("ann",)), 1))

    def test_step_by_step(self):
        chance = random.Random(48)
        seen = set()
        for history, _ in cases(250):
            course = random_course(chance.random(), history, ())
            persons = tuple(person for person in PERSONS if chance.random() < 0.6)
            found = moved_in(history, course, persons)
            self.assertTrue(same(found, paper_oracles.moved_count(history, course, persons)))
            seen.add(found)
        self.assertTrue(seen >= {0, 1, 2, 3})

    def test_persons(self):
        for persons, expected in (((), 0), (("ann",), 1), (("bob",), 1), (("cy",), 0), (("ann", "bob"), 2), (("zed",), 0),
                                  (("aa", "ann", "bob", "cy", "zed"), 2)):
            self.assertEqual(moved_in(HISTORY, COURSE, persons), expected)

    def test_only_mixes_move_marks(self):
        history = (HISTORY[0], (("pour", "ann", ("a", "b"), 1), ("new", "c", None), ("look", "ann", "d", 0)))
        course = (("a", "c"), ("b", "c"), ("b",), ("b",))
        lets_course(history, (), course)
        self.assertEqual(moved_in(history, course, ("ann",)), 0)

    def test_two_marks_at_one_mix(self):
        self.assertEqual(moved_in(SWAP, (("a", "b"), ("c", "d"), ("c", "d"), ("c", "d")), ("ann",)), 2)
        self.assertEqual(moved_in(SWAP, (("a", "b"), ("b", "d"), ("b", "d"), ("b", "d")), ("ann",)), 1)
        self.assertEqual(moved_in(SWAP, (("a", "b"),) * 4, ("ann",)), 0)

    def test_arguments_by_name(self):
        self.assertEqual(moved_in(persons=("ann",), course=COURSE, history=HISTORY), 1)


class LeastMovedTest(unittest.TestCase):
    def test_example(self):
        self.assertTrue(same(least_moved(ONE, (2,), ("ann", "bob")), 2))

    def test_against_all_steps(self):
        seen = {}
        for history, trusted, persons in moving_cases(2000):
            found = least_moved(history, trusted, persons)
            self.assertTrue(same(found, least_moves(history, trusted, persons)))
            seen[found] = seen.get(found, 0) + 1
        self.assertTrue({key for key in seen if seen[key] > 10} >= {None, 0, 1, 2})

    def test_some_course_moves_so_few(self):
        for history, trusted, persons in moving_cases(150):
            paper = move_paper(history, trusted, persons)
            if paper is not None:
                lets_course(history, trusted, paper[0])
                self.assertEqual(moved_in(history, paper[0], persons), least_moved(history, trusted, persons))

    def test_persons(self):
        for persons, expected in (((), 0), (("ann",), 1), (("bob",), 1), (("ann", "bob"), 2), (("cy",), 0), (("zed",), 0),
                                  (("aa", "ann", "bob", "cy"), 2)):
            self.assertEqual(least_moved(ONE, (2,), persons), expected)
            self.assertEqual(least_moved(ONE, (), persons), 0)

    def test_more_persons_and_more_reports(self):
        for history, trusted, persons in moving_cases(150):
            if least_moved(history, trusted, persons) is None:
                continue
            others = tuple(person for person in PERSONS if person not in persons)
            both = least_moved(history, trusted, PERSONS)
            parts = [least_moved(history, trusted, group) for group in (persons, others)]
            self.assertGreaterEqual(both, sum(parts))
            self.assertLessEqual(least_moved(history, (), persons), parts[0])
            self.assertEqual(least_moved(history, trusted, ()), 0)

    def test_two_ways(self):
        # The mark of c comes from a by ann alone or by bob and dot.
        history = (
            (("a", 1), ("b", 0), ("c", 0)),
            (("mix", "bob", ("a", "b")), ("mix", "dot", ("b", "c")), ("mix", "ann", ("a", "c")), ("look", "cy", "c", 1)),
        )
        found = [least_moved(history, (3,), chosen) for chosen in subsets(("ann", "bob", "dot"))]
        self.assertEqual(found, [0, 0, 0, 0, 1, 1, 0, 1])

    def test_many_marks(self):
        names = tuple("abcdefg")
        turns = [("mix", "ann", names), *(("look", "cy", name, int(name in "efg")) for name in names)]
        history = (tuple((name, int(name in "abc")) for name in names), tuple(turns))
        self.assertEqual(least_moved(history, tuple(range(1, 8)), ("ann",)), 3)
        self.assertEqual(least_moved(history, tuple(range(1, 7)), ("ann",)), 3)
        self.assertEqual(least_moved(history, (6, 7), ("ann",)), 2)
        there = tuple(("mix", person, names[at:at + 2]) for at, person in enumerate(("ann", "bob", "cy", "dot", "eve", "ann")))
        history = (tuple((name, int(name == "a")) for name in names), there + (("look", "cy", "g", 1),))
        for persons in subsets(PERSONS):
            self.assertEqual(least_moved(history, (6,), persons), len(persons) + ("ann" in persons))

    def test_two_marks_at_one_mix(self):
        self.assertEqual(least_moved(SWAP, (1, 2), ("ann",)), 2)
        self.assertEqual(least_moved(SWAP, (1,), ("ann",)), 1)
        self.assertEqual(least_moved(SWAP, (), ("ann",)), 0)

    def test_without_a_course(self):
        for persons in ((), ("ann",), PERSONS, ("zed",)):
            self.assertIsNone(least_moved(EMPTY, (1,), persons))
            self.assertIsNone(least_moved(BAD, (0,), persons))
        self.assertEqual(least_moved(BAD, (), ("cy",)), 0)

    def test_errors(self):
        for position in (0, 1, 3, -1, SIXTY, True):
            found = outcome(least_moved, ONE, (2, position, 9), ("ann",))
            self.assertEqual(found, ("NotAReport", (("position", position),)))

    def test_arguments_by_name(self):
        self.assertEqual(least_moved(persons=("ann", "bob"), trusted=(2,), history=ONE), 2)


if __name__ == "__main__":
    unittest.main()
