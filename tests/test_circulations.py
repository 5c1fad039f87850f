import itertools
import random
import unittest

from mixedbags.circulations import cheapest_circulation, cost_of_flows


def random_edges(chance, size, count):
    """Edges with costs that grow ever faster."""
    edges = []
    for _ in range(count):
        steps = sorted(chance.randint(-3, 3) for _ in range(chance.randint(0, 2)))
        costs = list(itertools.accumulate([chance.randint(-2, 2)] + steps))
        edges.append((chance.randrange(size), chance.randrange(size), chance.randint(0, 2), costs))
    return edges


def circulations(size, edges):
    """All circulations, by trying all flows."""
    for flows in itertools.product(*(range(low, low + len(costs)) for _, _, low, costs in edges)):
        balance = [0] * size
        for (tail, head, _, _), flow in zip(edges, flows):
            balance[tail] -= flow
            balance[head] += flow
        if not any(balance):
            yield list(flows)


def cost(edges, flows):
    return sum(costs[flow - low] for (_, _, low, costs), flow in zip(edges, flows))


class CirculationsTest(unittest.TestCase):
    def test_costs_begin_at_the_low_flow(self):
        self.assertEqual(cost_of_flows([(0, 1, 2, [5, 7, 11]), (1, 0, 0, [1, 2])], [3, 1]), 9)

    def test_loops_and_gains(self):
        flows, _ = cheapest_circulation(1, [(0, 0, 1, [0, -1, -1, 4])], [1])
        self.assertIn(flows, ([2], [3]))
        flows, _ = cheapest_circulation(2, [(0, 1, 0, [0, -5, -6]), (1, 0, 0, [0, 2, 4])], [0, 0])
        self.assertEqual(flows, [1, 1])

    def test_against_all_circulations(self):
        chance = random.Random(26)
        checked = 0
        for _ in range(600):
            size = chance.randint(1, 4)
            edges = random_edges(chance, size, chance.randint(1, 6))
            every = list(circulations(size, edges))
            if every:
                checked += 1
                first = chance.choice(every)
                given = list(first)
                flows, distances = cheapest_circulation(size, edges, first)
                self.assertEqual(first, given)
                self.assertIn(flows, every)
                self.assertEqual(cost_of_flows(edges, flows), min(cost(edges, other) for other in every))
                self.check_distances(edges, flows, distances)
        self.assertGreater(checked, 100)

    def check_distances(self, edges, flows, distances):
        for (tail, head, low, costs), flow in zip(edges, flows):
            rise = distances[head] - distances[tail]
            at = flow - low
            if at + 1 < len(costs):
                self.assertLessEqual(rise, costs[at + 1] - costs[at])
            if at > 0:
                self.assertGreaterEqual(rise, costs[at] - costs[at - 1])


if __name__ == "__main__":
    unittest.main()
