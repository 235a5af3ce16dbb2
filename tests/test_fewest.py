"""Promise 5: fewest."""

import itertools
import unittest

from forcednodes.forcing import fewest, forced
from helper import (
    AsInterfaceSays,
    NoGraph,
    all_graphs,
    all_joined,
    bits,
    fewest_by_sets,
    graph,
    path,
    ring,
    some_graphs,
)

PETERSEN = graph(10, [edge for k in range(5) for edge in ((k, (k + 1) % 5), (k, k + 5), (5 + k, 5 + (k + 2) % 5))])
CUBE = graph(8, [(a, a | 1 << k) for a in range(8) for k in range(3) if not a >> k & 1])
GRID = graph(12, [(k, k + 3) for k in range(9)] + [(k, k + 1) for k in range(12) if k % 3 != 2])


def two_sides(a, b):
    return graph(a + b, [(j, a + k) for j in range(a) for k in range(b)])


class Corners(unittest.TestCase):
    def test_one_node(self):
        self.assertEqual(fewest([0]), [1, 1])

    def test_nodes_without_neighbours(self):
        for n in range(1, 13):
            self.assertEqual(fewest([0] * n), [n, (1 << n) - 1])

    def test_a_node_without_neighbours_beside_others(self):
        self.assertEqual(fewest(graph(4, [(0, 1), (1, 2)])), [2, bits(0, 3)])
        self.assertEqual(fewest(graph(4, [(1, 2), (2, 3)])), [2, bits(0, 1)])
        self.assertEqual(fewest(graph(3, [(0, 2)])), [2, bits(0, 1)])

    def test_a_path(self):
        for n in range(1, 13):
            self.assertEqual(fewest(path(n)), [1, 1])

    def test_a_path_that_ends_elsewhere(self):
        self.assertEqual(fewest(graph(3, [(1, 0), (0, 2)])), [1, bits(1)])
        self.assertEqual(fewest(graph(5, [(4, 0), (0, 1), (1, 2), (2, 3)])), [1, bits(3)])
        self.assertEqual(fewest(graph(12, [(k, k + 1) for k in range(9)] + [(0, 10), (9, 11)])), [1, bits(10)])

    def test_a_ring(self):
        for n in range(3, 13):
            self.assertEqual(fewest(ring(n)), [2, bits(0, 1)])
        # Here nodes 0 and 1 aren't neighbours, and 0 and 2 are the least that are.
        self.assertEqual(fewest(graph(4, [(0, 2), (2, 1), (1, 3), (3, 0)])), [2, bits(0, 2)])

    def test_all_joined_with_all(self):
        for n in range(2, 13):
            self.assertEqual(fewest(all_joined(n)), [n - 1, (1 << (n - 1)) - 1])

    def test_two_parts(self):
        self.assertEqual(fewest(graph(4, [(0, 1), (2, 3)])), [2, bits(0, 2)])
        near = graph(7, [(0, 1), (1, 2), (3, 4), (4, 5), (5, 6), (6, 3)])
        self.assertEqual(fewest(near), [3, bits(0, 3, 4)])
        near = graph(12, [(0, 1), (1, 2)] + [(a, b) for a in range(3, 12) for b in range(a + 1, 12)])
        self.assertEqual(fewest(near), [9, bits(0, *range(3, 11))])

    def test_a_star(self):
        # The one in the middle is of no use: with two bare nodes beside it, it forces neither.
        for n in range(4, 13):
            self.assertEqual(fewest(graph(n, [(0, k) for k in range(1, n)])), [n - 2, bits(*range(1, n - 1))])
            self.assertEqual(fewest(graph(n, [(n - 1, k) for k in range(n - 1)])), [n - 2, bits(*range(n - 2))])

    def test_known_graphs(self):
        self.assertEqual(fewest(PETERSEN)[0], 5)
        self.assertEqual(fewest(CUBE), [4, bits(0, 1, 2, 3)])
        self.assertEqual(fewest(two_sides(3, 3))[0], 4)
        self.assertEqual(fewest(two_sides(2, 5)), [5, bits(0, 2, 3, 4, 5)])

    def test_twelve_and_thirteen(self):
        self.assertEqual(fewest(GRID), [3, bits(0, 1, 2)])
        self.assertEqual(fewest([0] * 12), [12, 4095])
        self.assertEqual(fewest(path(12)), [1, 1])
        self.assertEqual(fewest([0] * 13), [-28])
        self.assertEqual(fewest(path(13)), [-28])

    def test_sixteen_nodes(self):
        for near in ([0] * 16, path(16), ring(16), all_joined(16)):
            self.assertEqual(fewest(near), [-28])


class OfAllSets(unittest.TestCase):
    def assert_fewest(self, near):
        how_many, best = fewest(near)
        self.assertEqual(best.bit_count(), how_many, near)
        self.assertEqual(forced(best, near)[0], len(near), near)
        for s in range(1 << len(near)):
            if s.bit_count() < how_many or (s.bit_count() == how_many and s < best):
                self.assertLess(forced(s, near)[0], len(near), (s, near))

    def test_every_small_graph(self):
        for n in range(1, 6):
            for near in all_graphs(n):
                self.assert_fewest(near)

    def test_some_greater_graphs(self):
        for n in range(6, 13):
            for near in some_graphs(n, 12):
                self.assert_fewest(near)
        for near in (PETERSEN, CUBE, GRID):
            self.assert_fewest(near)

    def test_fewer_nodes_go_ahead_of_a_lesser_number(self):
        # The path's ends are nodes 2 and 3; nodes 0 and 1 colour all as well, and their number is less than bits(2).
        near = graph(4, [(3, 0), (0, 1), (1, 2)])
        self.assertEqual(forced(bits(0, 1), near)[0], 4)
        self.assertEqual(fewest(near), [1, bits(2)])
        near = graph(4, [(3, 0), (0, 1), (0, 2)])
        self.assertEqual(fewest(near), [2, bits(1, 2)])


class Refusals(NoGraph, unittest.TestCase):
    def call(self, s, near):
        return fewest(near)

    def test_thirteen_to_sixteen_nodes(self):
        for n in range(13, 17):
            for near in ([0] * n, path(n), ring(n), all_joined(n), *some_graphs(n, 12)):
                self.assertEqual(fewest(near), [-28])

    def test_no_graph_goes_ahead_of_too_many_nodes(self):
        for n in range(13, 17):
            for node in range(n):
                near = path(n)
                near[node] |= 1 << node
                self.assertEqual(fewest(near), [-22])
                near = [0] * n
                near[node] |= 1 << (node + 1) % n
                self.assertEqual(fewest(near), [-22])
        for n in range(13, 16):
            self.assertEqual(fewest(path(n - 1) + [32768]), [-22])
        for n in range(17, 31):
            self.assertEqual(fewest([0] * n), [-22])


class AgainstAnother(unittest.TestCase):
    """The same answers as those reckoned with Python's own sets."""

    def assert_alike(self, near):
        self.assertEqual(fewest(near), fewest_by_sets(near), near)

    def test_every_small_graph(self):
        for n in range(1, 6):
            for near in all_graphs(n):
                self.assert_alike(near)

    def test_every_short_list_whether_a_graph_or_not(self):
        for n in range(4):
            for near in itertools.product(range(16), repeat=n):
                self.assert_alike(list(near))

    def test_some_greater_graphs(self):
        for n in range(6, 17):
            for near in some_graphs(n, 12):
                self.assert_alike(near)


class Interface(AsInterfaceSays, unittest.TestCase):
    CALLS = AsInterfaceSays.CALLS + ((0, path(12)), (0, GRID), (0, [0] * 12), (0, path(13)), (0, [0] * 30))

    def call(self, s, near):
        return fewest(near)

    def length(self, near):
        return 2

    def test_the_arguments_by_name(self):
        self.assertEqual(fewest(near=path(3)), fewest(path(3)))


if __name__ == "__main__":
    unittest.main()
