import copy
import random
import unittest

from mixedbags.costs import least_cost
from mixedbags.errors import BagsError, HistoryError, InvalidEvent, NothingToUndo
from mixedbags.moves import least_moved
from mixedbags.numbers import numbers_of
from mixedbags.ranges import range_of
from mixedbags.settling import fewest_looks, is_settled
from mixedbags.worlds import World
from tests.support import (
    EVENTS, HISTORY, NAMES, ODD_VALUES, PERSONS, SIXTY, START, changed, outcome, reports_in, same,
)
from tests.world_oracles import SlowWorld, random_row, written_first, written_line

LOOK = ("look", "cy", "a", 1)


def random_start(chance, most=5):
    return tuple((name, chance.choice((0, 1, None))) for name in NAMES[:chance.randint(1, most)])


def random_values(chance, names):
    """A row that is possible, or one with parts changed, or any value."""
    row = random_row(chance, names)
    if chance.random() < 0.3:
        row = changed(chance, row, chance.choice((1, 2)))
    elif chance.random() < 0.1:
        row = chance.choice((*ODD_VALUES, ("trust",), ("trust", "ann", "bob"), ["trust", "ann"], ("trust", True), ("mix", "ann"),
                             ("world", START), ("new", "a", True), ("look", "cy", "zz", 0), "trust ann"))
    return row


def event_error(event, reason):
    return ("InvalidEvent", (("event", event), ("reason", reason)))


def full_world():
    world = World(START)
    for at in range(14):
        world.go(LOOK)
    return world


class RowsTest(unittest.TestCase):
    def check(self, world, slow):
        """Compare all that a world shows with the slow world."""
        self.assertTrue(same(world.log(), slow.log()))
        self.assertTrue(same(world.history_now(), slow.history()))
        self.assertTrue(same(world.persons_trusted(), slow.persons()))
        self.assertTrue(same(world.trusted_now(), slow.trusted()))
        self.assertEqual(len(world), len(slow.log()) - 1)
        lines = [written_first(slow.start)] + [written_line(row) for row in slow.now[0]]
        self.assertEqual(str(world), " / ".join(lines))

    def test_examples(self):
        world = World(START)
        self.assertEqual(outcome(world.look_at, "cy", "e", 1), event_error(("look", "cy", "e", 1), "place"))
        world = World(START)
        self.assertTrue(same([world.trust("ann"), world.undo(), len(world), world.counts()], [True, ("trust", "ann"), 0, (2, 2)]))

    def test_random_rows(self):
        reasons = {}
        for seed in range(400):
            chance = random.Random(seed)
            start = random_start(chance)
            world, slow = World(start), SlowWorld(start)
            names = tuple(name for name, _ in start)
            for step in range(chance.choice((3, 10, 40))):
                row = random_values(chance, names)
                before = copy.deepcopy(row)
                found, expected = outcome(world.go, row), slow.go(row)
                self.assertTrue(same(found, expected), (found, expected))
                self.assertTrue(same(row, before))
                self.assertEqual(world.counts(), (step + 1, step + 1))
                kind = expected[0] if expected[0] == "returns" else expected[1][1][1]
                reasons[kind] = reasons.get(kind, 0) + 1
            self.check(world, slow)
        self.assertTrue(all(reasons[kind] > 30 for kind in ("returns", "shape", "place", "full")), reasons)

    def test_methods_do_what_go_does(self):
        methods = {"mix": "mix_bags", "new": "new_bag", "look": "look_at", "pour": "pour_out", "trust": "trust", "distrust": "distrust"}
        for seed in range(200):
            chance = random.Random(seed)
            start = random_start(chance)
            world, slow = World(start), SlowWorld(start)
            for step in range(20):
                row = random_row(chance, tuple(name for name, _ in start))
                if chance.random() < 0.4:
                    at = chance.randrange(1, len(row))
                    row = row[:at] + (changed(chance, row[at], 1),) + row[at + 1:]
                found = outcome(getattr(world, methods[row[0]]), *row[1:])
                self.assertTrue(same(found, slow.go(row)), (row, found))
                self.assertEqual(world.counts(), (step + 1, step + 1))
            self.check(world, slow)

    def test_any_values_as_arguments(self):
        world = World(START)
        for value in (*ODD_VALUES, world, [world], {}):
            for call, row in ((world.mix_bags, ("mix", value, ("a", "b"))), (world.mix_bags, ("mix", "ann", value)),
                              (world.new_bag, ("new", value, 1)), (world.new_bag, ("new", "a", value)), (world.look_at, ("look", value, "a", 1)),
                              (world.look_at, ("look", "cy", value, 1)), (world.look_at, ("look", "cy", "a", value)),
                              (world.pour_out, ("pour", value, ("a",), 1)), (world.pour_out, ("pour", "cy", value, 1)),
                              (world.pour_out, ("pour", "cy", ("a", "b"), value)), (world.trust, ("trust", value)),
                              (world.distrust, ("distrust", value)), (world.go, value)):
                slow = SlowWorld(START)
                known, rows = slow.go(row if call != world.go else value), len(world)
                found = outcome(call, *(row[1:] if call != world.go else (value,)))
                self.assertEqual(found[0], known[0])
                if known[0] == "InvalidEvent":
                    self.assertEqual(found, known)
                    self.assertEqual(len(world), rows)
                else:
                    self.assertEqual(world.undo(), row)

    def test_kinds_of_rows(self):
        world = World(START)
        for row in (["trust", "ann"], ("trust", ["ann"]), ("trust", "Ann"), ("trust",), ("trust", "ann", 1), ("mix", "ann", ["a", "b"]),
                    ("mix", "ann", ("b", "a")), ("new", "a", True), ("new", "a", 2), ("look", "cy", "a", None), ("look", "cy", "a", False),
                    ("pour", "cy", ("a",), True), ("pour", "cy", ("a",), 2), ("pour", "cy", (), 0), (), ("world", START), None, "undo"):
            self.assertTrue(same(outcome(world.go, row), event_error(row, "shape")))
        for row in (("mix", "ann", ("a", "e")), ("new", "e", 1), ("look", "cy", "aa", 1), ("pour", "cy", ("a", "z"), 2)):
            self.assertTrue(same(outcome(world.go, row), event_error(row, "place")))
        self.assertEqual((len(world), world.counts()), (0, (22, 22)))

    def test_the_error_keeps_the_very_row(self):
        world = World(START)
        for row in (["trust", "ann"], ("new", "e", 1), ("trust", [])):
            with self.assertRaises(InvalidEvent) as caught:
                world.go(row)
            self.assertIs(caught.exception.event, row)
            self.assertIsInstance(caught.exception, HistoryError)
            self.assertIsInstance(caught.exception, BagsError)

    def test_the_fourteenth_and_the_fifteenth_event(self):
        world = World(START)
        self.assertEqual([world.go(LOOK) for _ in range(14)], list(range(1, 15)))
        for row in (LOOK, ("mix", "ann", ("a", "b")), ("new", "a", None), ("pour", "cy", ("a",), 0)):
            self.assertEqual(outcome(world.go, row), event_error(row, "full"))
        # A row that is none, and a place that is none, come first.
        self.assertEqual(outcome(world.go, ("new", "e", 1)), event_error(("new", "e", 1), "place"))
        self.assertEqual(outcome(world.go, ("new", "a", 2)), event_error(("new", "a", 2), "shape"))
        self.assertEqual([world.trust("cy"), world.trust("cy"), world.distrust("cy"), len(world)], [True, False, True, 17])
        self.assertEqual(world.undo(), ("distrust", "cy"))
        self.assertEqual(outcome(world.go, LOOK)[0], "InvalidEvent")
        for _ in range(3):
            world.undo()
        self.assertEqual(world.new_bag("b", 1), 14)
        self.assertEqual(outcome(world.go, LOOK)[0], "InvalidEvent")

    def test_trust(self):
        world = World(START)
        world.do_all(EVENTS)
        found = [world.trust("zed"), world.trust("cy"), world.trust("cy"), world.distrust("ann"), world.distrust("zed"), world.distrust("zed")]
        self.assertTrue(same(found, [True, True, False, False, True, False]))
        self.assertEqual((world.persons_trusted(), world.trusted_now(), len(world)), (("cy",), (2, 3), 10))
        self.assertEqual([world.undo() for _ in range(2)], [("distrust", "zed")] * 2)
        self.assertEqual(world.persons_trusted(), ("cy", "zed"))
        # Trust that changed nothing is taken back without an effect.
        self.assertEqual([world.undo(), world.undo(), world.persons_trusted()], [("distrust", "ann"), ("trust", "cy"), ("cy", "zed")])
        self.assertEqual([world.undo(), world.persons_trusted(), world.trusted_now()], [("trust", "cy"), ("zed",), ()])
        self.assertTrue(world.trust("ann"))
        self.assertEqual(world.persons_trusted(), ("ann", "zed"))

    def test_later_reports_of_trusted_persons(self):
        world = World(START)
        world.trust("cy")
        world.do_all(EVENTS)
        world.look_at("dot", "a", 1)
        self.assertEqual(world.trusted_now(), (2, 3))
        world.look_at("cy", "a", 1)
        self.assertEqual(world.trusted_now(), (2, 3, 5))

    def test_forty_rows(self):
        for seed in range(20):
            chance = random.Random(seed)
            world, slow = World(START), SlowWorld(START)
            while len(world) < 40:
                row = random_row(chance, tuple("abcd"))
                self.assertEqual(outcome(world.go, row), slow.go(row))
            self.check(world, slow)
            while len(world):
                self.assertEqual(world.undo(), slow.undo()[1])
                self.check(world, slow)


class UndoTest(unittest.TestCase):
    def test_to_the_beginning_and_once_more(self):
        world = World(START)
        rows = [*EVENTS, ("trust", "cy"), ("distrust", "ann")]
        world.do_all(rows)
        for count, row in enumerate(reversed(rows)):
            self.assertEqual(world.undo(), row)
            self.assertEqual(world.counts(), (count + 2, count + 2))
        for _ in range(2):
            with self.assertRaises(NothingToUndo) as caught:
                world.undo()
            self.assertTrue(same(caught.exception.steps, 0))
        self.assertEqual((world.log(), world.counts()), ((("world", START),), (9, 9)))
        self.assertEqual(world.go(EVENTS[0]), 1)

    def test_random_rows_and_undos(self):
        for seed in range(150):
            chance = random.Random(seed)
            start = random_start(chance)
            world, slow = World(start), SlowWorld(start)
            for _ in range(30):
                if chance.random() < 0.4:
                    found, expected = outcome(world.undo), slow.undo()
                else:
                    row = random_values(chance, tuple(name for name, _ in start))
                    found, expected = outcome(world.go, row), slow.go(row)
                self.assertTrue(same(found, expected))
                self.assertTrue(same(world.log(), slow.log()))
                self.assertTrue(same(world.trusted_now(), slow.trusted()))


class DoAllTest(unittest.TestCase):
    def test_failing_rows(self):
        wrong = ("new", "e", 1)
        for at in range(len(EVENTS) + 1):
            rows = EVENTS[:at] + (wrong,) + EVENTS[at:]
            for named, left in (({}, 0), ({"keep": False}, 0), ({"keep": True}, at)):
                world = World(START)
                world.trust("cy")
                self.assertEqual(outcome(world.do_all, rows, **named), event_error(wrong, "place"))
                self.assertEqual(world.log(), (("world", START), ("trust", "cy")) + EVENTS[:left])
                self.assertEqual(world.counts(), (2, 2))

    def test_random_rows(self):
        for seed in range(200):
            chance = random.Random(seed)
            start = random_start(chance)
            world, slow = World(start), SlowWorld(start)
            for step in range(4):
                rows = [random_row(chance, tuple(name for name, _ in start)) for _ in range(chance.randint(0, 8))]
                if rows and chance.random() < 0.6:
                    rows[chance.randrange(len(rows))] = random_values(chance, tuple(name for name, _ in start))
                given = chance.choice((list, tuple))(rows)
                before = copy.deepcopy(given)
                keep = chance.random() < 0.5
                self.assertTrue(same(outcome(world.do_all, given, keep=keep), slow.do_all(rows, keep)))
                self.assertTrue(same(world.log(), slow.log()))
                self.assertTrue(same(world.persons_trusted(), slow.persons()))
                self.assertTrue(same(given, before))
                self.assertEqual(world.counts(), (step + 1, step + 1))

    def test_no_rows(self):
        world = World(START)
        self.assertTrue(same([world.do_all([]), world.do_all(()), world.do_all((), keep=True)], [0, 0, 0]))
        self.assertEqual(world.counts(), (3, 3))

    def test_all_that_it_is_told_is_kept_as_a_copy(self):
        rows = list(EVENTS)
        world = World(START)
        world.do_all(rows)
        rows.clear()
        self.assertEqual(world.history_now(), HISTORY)

    def test_the_fifteenth_event(self):
        for keep, left in ((False, 0), (True, 14)):
            world = World(START)
            self.assertEqual(outcome(world.do_all, [LOOK] * 15, keep=keep), event_error(LOOK, "full"))
            self.assertEqual(len(world), left)
        self.assertEqual(World(START).do_all([LOOK] * 14 + [("trust", "cy")] * 26), 40)

    def test_keep_is_passed_by_name(self):
        with self.assertRaises(TypeError):
            World(START).do_all([], True)
        self.assertEqual(World(START).do_all(keep=False, rows=[LOOK]), 1)


class QueriesTest(unittest.TestCase):
    def test_example(self):
        world = World(START)
        world.do_all(EVENTS)
        before = world.range_now(2, ("a", "c"))
        self.assertTrue(world.trust("cy"))
        self.assertEqual([before, world.numbers_now(2, ("a", "c")), world.trusted_now()], [(0, 2), (0, 2), (2, 3)])

    def test_queries_are_those_of_the_history(self):
        seen = set()
        for seed in range(200):
            chance = random.Random(seed)
            start = random_start(chance, 4)
            names = tuple(name for name, _ in start)
            world, slow = World(start), SlowWorld(start)
            rows = [random_row(chance, names) for _ in range(chance.randint(0, 10))]
            world.do_all(rows)
            slow.do_all(rows, False)
            history, trusted = slow.history(), slow.trusted()
            counts = world.counts()
            moment = chance.randint(0, len(history[1]) + 1)
            places = chance.choice(((), names, names[:2], ("a", "h"), ("i",)))
            persons = tuple(sorted(chance.sample((*PERSONS, "zed"), chance.randint(0, 6))))
            priced = tuple(at for at in reports_in(history) if history[1][at][1] in persons and at not in trusted)
            low = chance.choice((-SIXTY, -1, 0, 1, 2))
            high = max(low, chance.choice((0, 1, 2, SIXTY)))
            for found, expected in (
                    (outcome(world.range_now, moment, places), outcome(range_of, history, trusted, moment, places)),
                    (outcome(world.numbers_now, moment, places), outcome(numbers_of, history, trusted, moment, places)),
                    (outcome(world.moved_now, persons), outcome(least_moved, history, trusted, persons)),
                    (outcome(world.cost_now, persons), outcome(least_cost, history, trusted, priced)),
                    (outcome(world.is_settled_now, places, low, high), outcome(is_settled, history, trusted, places, low, high)),
                    (outcome(world.fewest_now, places, low, high), outcome(fewest_looks, history, trusted, places, low, high))):
                self.assertTrue(same(found, expected))
                seen.add(found[0])
            self.assertEqual(world.counts(), counts)
            self.assertTrue(same(world.log(), slow.log()))
        self.assertEqual(seen, {"returns", "MomentOutOfRange", "UnknownName"})

    def test_costs_of_persons(self):
        world = World((("a", 1), ("b", 0)))
        world.do_all([("look", "cy", "a", 0), ("look", "dot", "b", 1), ("pour", "dot", ("a", "b"), 2), ("look", "eve", "a", 1)])
        found = [world.cost_now(persons) for persons in ((), ("cy",), ("dot",), ("cy", "dot"), ("cy", "dot", "eve", "zed"), ("zed",))]
        self.assertEqual(found, [0, 1, 2, 3, 3, 0])
        world.trust("eve")
        self.assertEqual([world.cost_now(("cy", "eve")), world.moved_now(("ann",))], [1, 0])
        # Then there is no course.
        world.trust("cy")
        found = [world.cost_now(("dot",)), world.moved_now(()), world.range_now(0, ()), world.numbers_now(0, ()),
                 world.is_settled_now(("a",), 1, 1), world.fewest_now(("a",), 1, 1)]
        self.assertEqual(found, [None, None, None, (), True, 0])

    def test_no_rows(self):
        world = World((("a", None),))
        self.assertEqual(world.history_now(), ((("a", None),), ()))
        self.assertEqual([world.range_now(0, ("a",)), world.fewest_now(("a",), 1, 1), world.persons_trusted()], [(0, 1), 1, ()])
        self.assertEqual(outcome(world.range_now, 1, ("h",)), ("MomentOutOfRange", (("moment", 1),)))
        self.assertEqual((len(world), str(world), world.counts()), (0, "world a:?", (0, 0)))

    def test_arguments_by_name(self):
        world = World(start=START)
        self.assertEqual(world.mix_bags(places=("a", "b"), person="ann"), 1)
        self.assertEqual(world.new_bag(mark=None, place="a"), 2)
        self.assertEqual(world.look_at(mark=1, place="a", person="cy"), 3)
        self.assertEqual(world.pour_out(number=0, places=("a",), person="cy"), 4)
        self.assertEqual([world.trust(person="cy"), world.distrust(person="cy"), world.go(row=("trust", "cy"))], [True] * 3)
        self.assertIsNone(world.range_now(places=("a",), moment=0))
        self.assertEqual(world.numbers_now(places=("a",), moment=0), ())
        self.assertEqual([world.moved_now(persons=()), world.cost_now(persons=())], [None, None])
        self.assertEqual([world.is_settled_now(high=1, low=1, places=()), world.fewest_now(high=1, low=1, places=())], [True, 0])


class EqualityTest(unittest.TestCase):
    def differs(self, one, other):
        self.assertIs(one == other, False)
        self.assertIs(other == one, False)
        self.assertIs(one != other, True)
        self.assertIs(other != one, True)

    def agrees(self, one, other):
        self.assertIs(one == other, True)
        self.assertIs(one != other, False)

    def test_marks(self):
        for one in (0, 1, None, True, False):
            for other in (0, 1, None, True, False):
                check = self.agrees if one is other else self.differs
                check(World((("a", 1), ("b", one))), World((("a", 1), ("b", other))))
                if type(one) is not bool and type(other) is not bool:
                    worlds = World(START), World(START)
                    for world, mark in zip(worlds, (one, other)):
                        world.new_bag("a", mark)
                    check(*worlds)

    def test_rows(self):
        one, other = World(START), World(START)
        self.agrees(one, one)
        self.agrees(one, other)
        one.trust("ann")
        self.differs(one, other)
        other.trust("ann")
        self.agrees(one, other)
        one.trust("ann")
        self.differs(one, other)
        one.undo()
        self.agrees(one, other)
        self.assertNotEqual(one.counts(), other.counts())
        one.do_all((("trust", "bob"), ("trust", "cy")))
        other.do_all((("trust", "cy"), ("trust", "bob")))
        self.assertEqual(one.persons_trusted(), other.persons_trusted())
        self.differs(one, other)

    def test_starts(self):
        self.differs(World((("a", 1),)), World((("b", 1),)))
        self.differs(World((("a", 1),)), World((("a", 1), ("b", 1))))

    def test_other_values(self):
        world = World(START)
        world.do_all(EVENTS)
        for value in (*ODD_VALUES, world.log(), str(world), [world], HISTORY, {}, object()):
            self.differs(world, value)

    def test_random_worlds(self):
        worlds = []
        for seed in range(60):
            chance = random.Random(seed % 30)
            start = random_start(chance, 2)
            world = World(start)
            world.do_all([random_row(chance, tuple(name for name, _ in start)) for _ in range(seed % 3)])
            worlds.append(world)
        for one in worlds:
            for other in worlds:
                (self.agrees if same(one.log(), other.log()) else self.differs)(one, other)


if __name__ == "__main__":
    unittest.main()
