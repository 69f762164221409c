"""Networks: how many units can flow."""

import random
import unittest
from itertools import combinations

from standinparts.flows import Network


def network_of(ways):
    """A network of tuples (from, to, units)."""
    network = Network()
    for start, end, units in ways:
        network.add_way(start, end, units)
    return network


def least_cut(ways, start, end):
    """The least number of units that a set of nodes around the start lets out."""
    nodes = sorted({node for way in ways for node in way[:2]} - {start, end})
    sets = [{start, *some} for size in range(len(nodes) + 1) for some in combinations(nodes, size)]
    return min(sum(units for one, other, units in ways if one in inside and other not in inside) for inside in sets)


class NetworkTest(unittest.TestCase):
    def test_units_change_their_ways(self):
        network = network_of([("s", "a", 1), ("s", "b", 1), ("a", "c", 1), ("a", "d", 1), ("b", "c", 1),
                              ("c", "t", 1), ("d", "t", 1)])
        self.assertEqual(network.flow("s", "t"), 2)
        self.assertEqual([network.flowing("a", "d"), network.flowing("b", "c"), network.flowing("a", "c")], [1, 1, 0])
        self.assertEqual(network.flow("s", "t"), 0)

    def test_nodes_without_ways(self):
        self.assertEqual(Network().flow("s", "t"), 0)
        self.assertEqual(network_of([("a", "t", 5)]).flow("s", "t"), 0)
        self.assertEqual(network_of([("s", "a", 5)]).flow("s", "t"), 0)

    def test_ways_grow(self):
        network = network_of([("s", "a", 1), ("a", "t", 5)])
        self.assertEqual(network.flow("s", "t"), 1)
        network.add_way("s", "a", 2)
        self.assertEqual(network.flow("s", "t"), 2)
        self.assertEqual(network.flowing("s", "a"), 3)

    def test_copies_go_on_by_themselves(self):
        network = network_of([("s", "a", 3), ("a", "t", 2)])
        other = network.copy()
        self.assertEqual(other.flow("s", "t"), 2)
        other.add_way("a", "t", 9)
        self.assertEqual([network.flowing("a", "t"), network.flow("s", "t"), network.flow("s", "t")], [0, 2, 0])

    def test_without_a_way(self):
        network = network_of([("s", "a", 3), ("a", "t", 2), ("s", "t", 1)])
        self.assertEqual(network.without("a", "t").flow("s", "t"), 1)
        self.assertEqual(network.flow("s", "t"), 3)
        self.assertEqual(network.without("a", "t").flow("t", "s"), 1)

    def test_great_units_take_few_turns(self):
        great = 10 ** 30
        ways = [("s", "a", great), ("s", "b", great - 1), ("a", "b", 1), ("a", "t", great - 2), ("b", "t", great)]
        self.assertEqual(network_of(ways).flow("s", "t"), 2 * great - 2)

    def test_against_all_cuts(self):
        chance = random.Random(31)
        for _ in range(300):
            order = list("sabcdet")
            pairs = [pair for pair in combinations(order, 2) if chance.random() < 0.6]
            ways = [(*pair, chance.randrange(6)) for pair in pairs]
            ways.append(("s", "a", chance.randrange(3)))
            self.assertEqual(network_of(ways).flow("s", "t"), least_cut(ways + [("s", "t", 0)], "s", "t"))


if __name__ == "__main__":
    unittest.main()
