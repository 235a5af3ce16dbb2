"""Promise 1: forced."""

import itertools
import unittest

from forcednodes.forcing import forced
from helper import (
    AsInterfaceSays,
    NotAsTold,
    all_graphs,
    all_joined,
    bits,
    forced_by_sets,
    graph,
    path,
    ring,
    some_graphs,
)


class Corners(unittest.TestCase):
    def test_nothing_coloured(self):
        for near in ([0], path(5), ring(6), all_joined(16)):
            self.assertEqual(forced(0, near), [0, 0, 0])

    def test_one_node(self):
        self.assertEqual(forced(0, [0]), [0, 0, 0])
        self.assertEqual(forced(1, [0]), [1, 1, 0])

    def test_two_nodes(self):
        self.assertEqual(forced(1, path(2)), [2, 3, 1])
        self.assertEqual(forced(2, path(2)), [2, 3, 1])
        self.assertEqual(forced(3, path(2)), [2, 3, 0])

    def test_a_node_without_neighbours_is_neither_forced_nor_forces(self):
        near = graph(4, [(0, 1), (1, 2)])
        self.assertEqual(forced(bits(0), near), [3, bits(0, 1, 2), 2])
        self.assertEqual(forced(bits(3), near), [1, bits(3), 0])
        self.assertEqual(forced(bits(0, 3), near), [4, 15, 2])
        self.assertEqual(forced(bits(0, 2), [0, 0, 0]), [2, bits(0, 2), 0])

    def test_a_path_from_an_end(self):
        for n in range(1, 17):
            self.assertEqual(forced(1, path(n)), [n, (1 << n) - 1, n - 1])
            self.assertEqual(forced(1 << (n - 1), path(n)), [n, (1 << n) - 1, n - 1])

    def test_a_path_from_the_middle(self):
        self.assertEqual(forced(bits(2), path(5)), [1, bits(2), 0])
        self.assertEqual(forced(bits(2, 3), path(5)), [5, 31, 2])
        self.assertEqual(forced(bits(2, 3), path(6)), [6, 63, 2])
        self.assertEqual(forced(bits(1, 3), path(5)), [2, bits(1, 3), 0])

    def test_a_ring(self):
        self.assertEqual(forced(bits(0), ring(6)), [1, bits(0), 0])
        self.assertEqual(forced(bits(0, 1), ring(6)), [6, 63, 2])
        self.assertEqual(forced(bits(0, 1), ring(7)), [7, 127, 3])
        self.assertEqual(forced(bits(0, 2), ring(6)), [2, bits(0, 2), 0])
        self.assertEqual(forced(bits(0, 5), ring(6)), [6, 63, 2])

    def test_all_joined_with_all(self):
        for n in range(3, 17):
            near = all_joined(n)
            every = (1 << n) - 1
            self.assertEqual(forced(every ^ bits(0), near), [n, every, 1])
            self.assertEqual(forced(every ^ bits(n - 1), near), [n, every, 1])
            self.assertEqual(forced(every ^ bits(0, n - 1), near), [n - 2, every ^ bits(0, n - 1), 0])
            self.assertEqual(forced(every, near), [n, every, 0])

    def test_two_parts(self):
        near = graph(7, [(0, 1), (1, 2), (3, 4), (4, 5), (5, 6), (6, 3)])
        self.assertEqual(forced(bits(0), near), [3, bits(0, 1, 2), 2])
        self.assertEqual(forced(bits(3, 4), near), [4, bits(3, 4, 5, 6), 1])
        self.assertEqual(forced(bits(0, 3, 4), near), [7, 127, 2])

    def test_a_node_that_two_force_at_once(self):
        self.assertEqual(forced(bits(0, 2), path(3)), [3, 7, 1])
        self.assertEqual(forced(bits(0, 4), path(5)), [5, 31, 2])
        self.assertEqual(forced(bits(0, 1, 2), graph(4, [(0, 3), (1, 3), (2, 3)])), [4, 15, 1])

    def test_sixteen_nodes(self):
        every = 65535
        self.assertEqual(forced(0, [0] * 16), [0, 0, 0])
        self.assertEqual(forced(bits(15), [0] * 16), [1, bits(15), 0])
        self.assertEqual(forced(every, [0] * 16), [16, every, 0])
        self.assertEqual(forced(bits(0, 15), ring(16)), [16, every, 7])
        grid = graph(16, [(k, k + 4) for k in range(12)] + [(k, k + 1) for k in range(16) if k % 4 != 3])
        self.assertEqual(forced(bits(0, 1, 2, 3), grid), [16, every, 3])
        self.assertEqual(forced(bits(12, 13, 14), grid), [6, bits(4, 8, 9, 12, 13, 14), 2])


class Steps(unittest.TestCase):
    def test_none_where_nothing_is_forced_at_first(self):
        star = graph(4, [(0, 1), (0, 2), (0, 3)])
        self.assertEqual(forced(bits(0), star), [1, bits(0), 0])
        self.assertEqual(forced(bits(0, 1), star), [2, bits(0, 1), 0])
        self.assertEqual(forced(15, star), [4, 15, 0])

    def test_many_in_one_step(self):
        matching = graph(16, [(k, k + 8) for k in range(8)])
        self.assertEqual(forced(255, matching), [16, 65535, 1])
        self.assertEqual(forced(65535 ^ 255, matching), [16, 65535, 1])

    def test_who_is_coloured_in_a_step_forces_from_the_next_on(self):
        # Both ways: going through the nodes upwards or downwards, none may act in the step that colours it.
        self.assertEqual(forced(bits(0), path(4)), [4, 15, 3])
        self.assertEqual(forced(bits(3), path(4)), [4, 15, 3])

    def test_a_node_forces_only_once_its_others_are_coloured(self):
        # Node 1 has two bare neighbours until node 0 has forced node 2.
        near = graph(4, [(0, 2), (1, 2), (1, 3)])
        self.assertEqual(forced(bits(1), near), [1, bits(1), 0])
        self.assertEqual(forced(bits(0, 1), near), [4, 15, 2])

    def test_two_of_one_step_do_not_see_each_other(self):
        # Node 0 forces 2 and node 1 forces 3 at once; 2 and 3 are joined, and neither forces the other later.
        near = graph(4, [(0, 2), (1, 3), (2, 3)])
        self.assertEqual(forced(bits(0, 1), near), [4, 15, 1])

    def test_nodes_without_colour_force_nothing(self):
        self.assertEqual(forced(bits(1), graph(5, [(0, 1), (1, 2), (3, 4)])), [1, bits(1), 0])


class Refusals(NotAsTold, unittest.TestCase):
    call = staticmethod(forced)


class AgainstAnother(unittest.TestCase):
    """The same answers as those reckoned with Python's own sets."""

    def assert_alike(self, s, near):
        self.assertEqual(forced(s, near), forced_by_sets(s, near), (s, near))

    def test_every_small_graph(self):
        for n in range(1, 6):
            for near in all_graphs(n):
                for s in range((1 << n) + 1):
                    self.assert_alike(s, near)

    def test_every_short_list_whether_a_graph_or_not(self):
        for n in range(4):
            for near in itertools.product(range(16), repeat=n):
                for s in (0, 1, 2, 5, 8):
                    self.assert_alike(s, list(near))

    def test_some_greater_graphs(self):
        for n in range(6, 17):
            for near in some_graphs(n, 36):
                for s in range(1, 1 << n, max(1, (1 << n) // 41)):
                    self.assert_alike(s, near)


class Interface(AsInterfaceSays, unittest.TestCase):
    call = staticmethod(forced)

    def length(self, near):
        return 3


if __name__ == "__main__":
    unittest.main()
