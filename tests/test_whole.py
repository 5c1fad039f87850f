"""What is promised over the whole program, for histories of the greatest sizes."""

import copy
import random
import unittest

from mixedbags.costchecker import lets_cost
from mixedbags.costpapers import cost_bound, cost_paper
from mixedbags.costs import cost_of, least_cost
from mixedbags.coursechecker import lets_course
from mixedbags.courses import any_course, course_through
from mixedbags.gapchecker import lets_number
from mixedbags.gappapers import number_paper
from mixedbags.hindsight import forcing_sets
from mixedbags.hindsightchecker import lets_hindsight
from mixedbags.hindsightpapers import hindsight_paper
from mixedbags.historychecker import lets_history
from mixedbags.historyreadings import history_read
from mixedbags.historytexts import history_text
from mixedbags.knowledge import group_range, is_known
from mixedbags.laststeps import best_state, steps_between
from mixedbags.movechecker import lets_moved
from mixedbags.movepapers import move_paper
from mixedbags.moves import least_moved
from mixedbags.nogap import has_no_gap_reason
from mixedbags.numbers import numbers_of
from mixedbags.partchecker import lets_part
from mixedbags.partpapers import part_paper
from mixedbags.parts import part_of
from mixedbags.prices import lower_bound, upper_bound
from mixedbags.pricing import best_prices, no_course_prices
from mixedbags.rangechecker import lets_range
from mixedbags.rangepapers import range_paper
from mixedbags.ranges import range_of
from mixedbags.refutechecker import lets_refuted
from mixedbags.refutetrees import fewest_forcing, refute_tree
from mixedbags.replaying import is_log, replayed
from mixedbags.reportsetchecker import lets_report_set
from mixedbags.reportsetpapers import report_set_paper
from mixedbags.reportsets import sufficient_sets
from mixedbags.rowreadings import read_log
from mixedbags.rowtexts import log_lines
from mixedbags.settlechecker import lets_answers, lets_plan
from mixedbags.settlepapers import answer_paper, plan_paper
from mixedbags.settling import fewest_looks, is_settled
from mixedbags.states import future_states, past_states, possible_states
from mixedbags.stepchecker import lets_steps
from mixedbags.steppapers import step_paper
from mixedbags.stretches import allowed_marks, stretches_of
from mixedbags.worlds import World
from mixedbags.wrongs import wrong_reports
from tests.support import (
    PERSONS, names_of, random_history, random_level_prices, random_question, reports_in, same, subsets,
)

KINDS = (("mix", "look", "pour"), ("mix", "mix", "look", "look", "pour"), ("mix", "new", "look", "pour", "pour"))
HEAVY = tuple(zip(PERSONS, (9, 8, 1, 5, 9)))


def right_history(seed):
    """A history of the greatest size with reports that are mostly right, so that they leave some course."""
    chance = random.Random(seed)
    start, events = random_history(seed, 7, 14, 0.3, KINDS[seed % 3])
    course = any_course((start, events), ())
    told = []
    for at, event in enumerate(events):
        if event[0] == "look" and chance.random() < 0.9:
            event = event[:3] + (int(event[2] in course[at]),)
        elif event[0] == "pour" and chance.random() < 0.9:
            event = event[:3] + (len(set(event[2]) & set(course[at])),)
        told.append(event)
    return start, tuple(told)


def great_cases(count):
    """Histories with seven places and fourteen events, trusted reports, at most eight candidates, and a question."""
    for seed in range(count):
        chance = random.Random(seed)
        history = right_history(seed)
        reports = reports_in(history)
        trusted = tuple(at for at in reports if chance.random() < (0, 0.2, 0.5)[seed % 3])
        candidates = tuple(sorted(chance.sample(reports, min(8, len(reports)))))
        yield history, trusted, candidates, *random_question(chance, history)


class WholeTest(unittest.TestCase):
    def test_numbers_and_bounds(self):
        chance = random.Random(101)
        for history, trusted, _, moment, places in great_cases(60):
            self.assertEqual(lets_history(history), 14)
            asked = history, trusted, moment, places
            numbers, span = numbers_of(*asked), range_of(*asked)
            paper = range_paper(*asked)
            self.assertEqual(span, (numbers[0], numbers[-1]) if numbers else None)
            self.assertEqual(lets_range(*asked, paper), span)
            if span is None:
                self.assertIn(paper[0], ("none", "clash"))
                self.assertIs(any_course(history, trusted), None)
                has_clash = any(allowed_marks(history, trusted, stretch) == () for stretch in stretches_of(history))
                self.assertIs(no_course_prices(history, trusted) is None, has_clash)
                continue
            self.assertIsNone(no_course_prices(history, trusted))
            self.assertEqual(upper_bound(*asked, best_prices(*asked)), span[1])
            self.assertEqual(lower_bound(*asked, best_prices(*asked, is_upper=False)), span[0])
            for size in (0, 1, 5, 10 ** 60 - 1):
                prices = random_level_prices(chance, history, size)
                self.assertLessEqual(lower_bound(*asked, prices), span[0])
                self.assertGreaterEqual(upper_bound(*asked, prices), span[1])
            if has_no_gap_reason(history, trusted, moment):
                self.assertEqual(numbers, tuple(range(span[0], span[1] + 1)))

    def test_number_papers(self):
        for history, trusted, _, moment, places in great_cases(40):
            numbers = numbers_of(history, trusted, moment, places)
            for number in range(len(places) + 2):
                paper = number_paper(history, trusted, moment, places, number)
                found = lets_number(history, trusted, moment, places, number, paper)
                self.assertEqual(found, "occurs" if number in numbers else "gap")

    def test_more_trusted_reports_add_nothing(self):
        for history, trusted, _, moment, places in great_cases(40):
            more = reports_in(history)[::2]
            more = tuple(sorted({*trusted, *more}))
            for few, many in ((trusted, more), ((), trusted)):
                self.assertLessEqual(set(numbers_of(history, many, moment, places)), set(numbers_of(history, few, moment, places)))
                for call in (past_states, future_states, possible_states):
                    self.assertLessEqual(set(call(history, many, moment)), set(call(history, few, moment)))
                least = [least_moved(history, agreed, PERSONS) for agreed in (few, many)]
                self.assertTrue(least[1] is None or least[0] <= least[1])

    def test_sets_that_force(self):
        sizes = set()
        for history, trusted, candidates, moment, places in great_cases(45):
            numbers = numbers_of(history, trusted, moment, places)
            allowed = numbers[::2]
            asked = history, trusted, candidates, moment, places, allowed
            sets = forcing_sets(*asked)
            self.assertEqual(list(sets), sorted(set(sets)))
            for chosen in subsets(candidates[:5]):
                agreed = tuple(sorted({*trusted, *chosen}))
                does_force = set(numbers_of(history, agreed, moment, places)) <= set(allowed)
                self.assertIs(does_force, any(set(part) <= set(chosen) for part in sets))
            fewest = min(map(len, sets), default=None)
            sizes.add(fewest)
            self.assertEqual(fewest_forcing(*asked), fewest)
            paper = hindsight_paper(*asked)
            if fewest is None:
                self.assertIsNone(paper)
            else:
                self.assertIn(lets_hindsight(*asked, paper), sets)
            for size in range(4):
                tree = refute_tree(*asked, size)
                self.assertIs(tree is None, fewest is not None and fewest <= size)
                if tree is not None:
                    self.assertGreaterEqual(lets_refuted(*asked, size, tree), 1)
        self.assertTrue(sizes >= {None, 0, 1, 2})

    def test_sets_that_are_sufficient(self):
        for history, trusted, candidates, moment, places in great_cases(45):
            numbers = numbers_of(history, trusted, moment, places) or (0,)
            low, high = numbers[len(numbers) // 2], numbers[-1]
            sets = sufficient_sets(history, trusted, candidates, moment, places, low, high)
            for chosen in sets:
                agreed = tuple(sorted({*trusted, *chosen}))
                self.assertTrue(is_known(history, agreed, moment, places, low, high))
            paper = report_set_paper(history, trusted, candidates, moment, places, low, high)
            if sets:
                self.assertIn(lets_report_set(history, trusted, candidates, moment, places, low, high, paper), sets)
            else:
                self.assertIsNone(paper)

    def test_groups(self):
        for history, _, _, moment, places in great_cases(30):
            one, other = group_range(history, ("ann", "bob"), moment, places), group_range(history, ("cy",), moment, places)
            both = group_range(history, ("ann", "bob", "cy"), moment, places)
            for part in (one, other):
                self.assertTrue(both is None or part[0] <= both[0] <= both[1] <= part[1])

    def test_moved_marks(self):
        for history, trusted, _, _, _ in great_cases(60):
            moved = {}
            for persons in subsets(PERSONS):
                paper = move_paper(history, trusted, persons)
                moved[persons] = least_moved(history, trusted, persons)
                if paper is None:
                    self.assertIsNone(moved[persons])
                else:
                    self.assertEqual(lets_moved(history, trusted, persons, paper), moved[persons])
            if moved[()] is not None:
                self.assertEqual(moved[()], 0)
                for persons in moved:
                    others = tuple(person for person in PERSONS if person not in persons)
                    self.assertGreaterEqual(moved[PERSONS], moved[persons] + moved[others])

    def test_costs(self):
        chance = random.Random(102)
        for history, trusted, candidates, _, _ in great_cases(60):
            priced = tuple(at for at in reports_in(history) if at not in trusted)
            least = least_cost(history, trusted, priced, weights=HEAVY)
            paper = cost_paper(history, trusted, priced, weights=HEAVY)
            if least is None:
                self.assertEqual([paper, wrong_reports(history, trusted, priced, weights=HEAVY)], [None, None])
                continue
            self.assertEqual(lets_cost(history, trusted, priced, paper, weights=HEAVY), least)
            course = any_course(history, trusted)
            for size in (1, 9, 10 ** 60 - 1):
                bound = cost_bound(history, trusted, priced, random_level_prices(chance, history, size), weights=HEAVY)
                self.assertLessEqual(bound, min(least, cost_of(history, priced, course, weights=HEAVY)))
            wrong = wrong_reports(history, trusted, priced, weights=HEAVY)
            parts = {}
            for person in PERSONS:
                parts[person] = part_of(history, trusted, priced, person, weights=HEAVY)
                told = part_paper(history, trusted, priced, person, weights=HEAVY)
                self.assertEqual(lets_part(history, trusted, priced, person, told, weights=HEAVY), parts[person])
                self.assertEqual(cost_of(history, priced, told[0], weights=HEAVY), least)
            self.assertLessEqual(sum(parts.values()), least)
            for at in wrong:
                self.assertGreaterEqual(parts[history[1][at][1]], dict(HEAVY)[history[1][at][1]])

    def test_the_last_moment(self):
        chance = random.Random(103)
        for history, trusted, _, _, _ in great_cases(25):
            states = possible_states(history, trusted, 14)
            if not states:
                continue
            one, other = chance.choice(states), chance.choice(states)
            row = steps_between(history, trusted, one, other)
            self.assertTrue(set(row) <= set(states))
            paper = step_paper(history, trusted, one, other)
            self.assertEqual(lets_steps(history, trusted, one, other, paper), len(paper) - 1)
            values = tuple((name, chance.randint(-10 ** 60, 10 ** 60)) for name in names_of(history))
            sums = {state: sum(dict(values)[name] for name in state) for state in states}
            self.assertEqual(best_state(history, trusted, values), min(states, key=lambda state: (-sums[state], state)))
            for state in states[::9]:
                lets_course(history, trusted, course_through(history, trusted, 14, state))

    def test_looks(self):
        seen = set()
        for history, trusted, _, _, places in great_cases(15):
            for low, high in ((1, 2), (len(places) // 2, 7)):
                fewest = fewest_looks(history, trusted, places, low, high)
                seen.add(fewest)
                self.assertIs(is_settled(history, trusted, places, low, high), fewest == 0)
                plan = plan_paper(history, trusted, places, low, high)
                self.assertEqual(lets_plan(history, trusted, places, low, high, plan), fewest)
                for size in range(fewest):
                    table = answer_paper(history, trusted, places, low, high, size)
                    self.assertEqual(lets_answers(history, trusted, places, low, high, size, table), len(table))
                self.assertIsNone(answer_paper(history, trusted, places, low, high, fewest))
        self.assertGreater(len(seen), 3)

    def test_texts_and_worlds(self):
        for history, _, _, moment, places in great_cases(60):
            self.assertTrue(same(history_read(history_text(history)), history))
            world = World(history[0])
            rows = [("trust", person) for person in PERSONS] + list(history[1]) + [("distrust", "ann")] * 21
            self.assertEqual(world.do_all(rows), 40)
            log = world.log()
            self.assertTrue(is_log(log))
            self.assertTrue(same(read_log(log_lines(log)), log))
            again = replayed(log)
            self.assertEqual(world, again)
            self.assertEqual(again.numbers_now(moment, places), world.numbers_now(moment, places))
            self.assertEqual(again.trusted_now(), world.trusted_now())

    def test_no_argument_is_changed(self):
        for history, trusted, candidates, moment, places in great_cases(6):
            values = [history, trusted, candidates, places, HEAVY]
            before = copy.deepcopy(values)
            priced = tuple(at for at in reports_in(history) if at not in trusted)
            wrong_reports(history, trusted, priced, weights=HEAVY)
            hindsight_paper(history, trusted, candidates, moment, places, (1,))
            plan_paper(history, trusted, places, 1, 2)
            self.assertTrue(same(values, before))

    def test_a_result_does_not_depend_on_earlier_calls(self):
        for history, trusted, _, moment, places in great_cases(10):
            table = answer_paper(history, trusted, places, 1, 2, 1)
            for _ in range(2):
                self.assertTrue(same(answer_paper(history, trusted, places, 1, 2, 1), table))


if __name__ == "__main__":
    unittest.main()
