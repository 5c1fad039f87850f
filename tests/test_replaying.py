import copy
import random
import unittest

from mixedbags.replaying import is_log, replayed
from mixedbags.worlds import World
from tests.support import EVENTS, HISTORY, ODD_VALUES, START, changed, outcome, same
from tests.test_worlds import random_start, random_values
from tests.world_oracles import SlowWorld, random_row
from tests import world_oracles


def world_of(seed, most=40):
    """A world after random rows, the slow world beside it, and its places."""
    chance = random.Random(seed)
    start = random_start(chance)
    names = tuple(name for name, _ in start)
    world, slow = World(start), SlowWorld(start)
    for _ in range(chance.randint(0, most)):
        row = random_row(chance, names)
        outcome(world.go, row)
        slow.go(row)
    return world, slow, names


class IsLogTest(unittest.TestCase):
    def check(self, thing):
        expected = world_oracles.is_log(thing)
        self.assertIs(is_log(thing), expected, thing)
        return expected

    def test_example(self):
        self.assertIs(is_log((("world", START), ("trust", "ann"))), True)

    def test_rows_and_starts(self):
        first = ("world", START)
        for thing in (first, (first,), (first, *EVENTS), (first, ("distrust", "zed"), ("new", "zz", None)), (("world", (("a", None),)),),
                      (("world", ()),), (("world", (("b", 1), ("a", 1))),), (("world", (("a", 1), ("a", 1))),), (("world", START, 1),),
                      ((("world",),)), [first], (["world", START],), (("World", START),), (first, first), (("trust", "ann"),),
                      (("trust", "ann"), first), (("world", list(START)),), (("world", (["a", 1],)),), (("world", (("a", True),)),),
                      (("world", (("a", 2),)),), (("world", (("a",),)),), (("world", (("A", 1),)),), (first, ["trust", "ann"]),
                      (first, ("trust", "Ann")), (first, ("mix", "ann", ("b", "a"))), (first, ("look", "cy", "a", True)), (), ((),)):
            self.check(thing)
        # Whether the places of the rows are known is not asked, nor how many events there are.
        self.assertTrue(self.check((first, ("new", "zz", 1)) + (("new", "a", 1),) * 20))

    def test_any_values(self):
        for thing in ODD_VALUES:
            self.assertFalse(self.check(thing))
            self.check((thing,))
            self.check((("world", thing),))
            self.check((thing, START))
            self.check((("world", START), thing))
            self.check((("world", (thing,)),))
            self.check((("world", (("a", thing),)),))
        world = World(START)
        for thing in (world, (world,), (("world", START), world), {}, (("world", world),)):
            self.assertFalse(is_log(thing))

    def test_logs_with_parts_changed(self):
        seen = {True: 0, False: 0}
        for seed in range(600):
            chance = random.Random(seed)
            log = world_of(seed, 8)[0].log()
            self.assertTrue(self.check(log))
            thing = changed(chance, log, chance.choice((1, 2)))
            before = copy.deepcopy(thing)
            seen[self.check(thing)] += 1
            self.assertTrue(same(thing, before))
        self.assertGreater(min(seen.values()), 50)

    def test_arguments_by_name(self):
        self.assertIs(is_log(thing=None), False)


class ReplayedTest(unittest.TestCase):
    def test_example(self):
        found = outcome(replayed, (("world", START), ("new", "e", 1)))
        self.assertEqual(found, ("InvalidEvent", (("event", ("new", "e", 1)), ("reason", "place"))))

    def test_equal_worlds_that_continue_equally(self):
        for seed in range(200):
            world, slow, names = world_of(seed)
            chance = random.Random(seed)
            log = world.log()
            again = replayed(log)
            self.assertIs(again == world, True)
            self.assertTrue(same(again.log(), log))
            self.assertIsNot(again, world)
            moment = len(world.history_now()[1])
            for call, args in (("history_now", ()), ("persons_trusted", ()), ("trusted_now", ()), ("range_now", (moment, names)),
                               ("numbers_now", (moment, names[:1])), ("moved_now", (("ann", "bob"),)), ("cost_now", (("cy", "dot"),)),
                               ("is_settled_now", (names, 1, 1)), ("__str__", ()), ("__len__", ())):
                self.assertTrue(same(getattr(again, call)(*args), getattr(world, call)(*args)))
            for _ in range(6):
                row = random_values(chance, names)
                expected = slow.go(row)
                self.assertTrue(same(outcome(world.go, row), expected))
                self.assertTrue(same(outcome(again.go, row), expected))
            self.assertEqual(world, again)
            self.assertTrue(same(outcome(world.undo), outcome(again.undo)))
            self.assertEqual(world, again)

    def test_the_worlds_are_independent(self):
        world = World(START)
        again = replayed(world.log())
        again.trust("ann")
        self.assertEqual((len(world), len(again)), (0, 1))

    def test_prefixes(self):
        for seed in range(60):
            world = world_of(seed)[0]
            log = world.log()
            for count in range(len(log), 0, -1):
                self.assertEqual(replayed(log[:count]), world)
                self.assertEqual(replayed(log[:count]).log(), log[:count])
                outcome(world.undo)

    def test_logs_with_a_missing_repeated_or_other_row(self):
        wrong = 0
        for seed in range(200):
            chance = random.Random(seed)
            world, _, names = world_of(seed)
            rows = list(world.log()[1:])
            if not rows:
                continue
            at = chance.randrange(len(rows))
            way = chance.randrange(3)
            if way == 0:
                del rows[at]
            elif way == 1:
                rows.insert(chance.randrange(len(rows)), rows[at])
            else:
                rows[at] = chance.choice((random_row(chance, names), ("new", "zz", 1), ("mix", "ann", ("a", "zz"))))
            slow = SlowWorld(world.log()[0][1])
            expected = slow.do_all(rows, False)
            log = (world.log()[0], *rows)
            found = outcome(replayed, log)
            if expected[0] != "returns":
                wrong += 1
                self.assertEqual(found, expected)
            else:
                self.assertEqual(found[1].log(), log)
                self.assertIs(found[1] == world, same(log, world.log()))
        self.assertGreater(wrong, 10)

    def test_the_first_row_that_is_not_possible(self):
        log = (("world", START), *EVENTS, ("new", "y", 1), ("new", "z", 1))
        self.assertEqual(outcome(replayed, log)[1][0], ("event", ("new", "y", 1)))
        log = (("world", START),) + (("new", "a", 1),) * 15
        self.assertEqual(outcome(replayed, log)[1], (("event", ("new", "a", 1)), ("reason", "full")))

    def test_arguments_by_name(self):
        world = replayed(log=(("world", START), *EVENTS))
        self.assertEqual(world.history_now(), HISTORY)


if __name__ == "__main__":
    unittest.main()
