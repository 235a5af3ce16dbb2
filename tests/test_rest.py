"""Promise 3: rest."""

import itertools
import unittest

from forcednodes.forcing import forced, rest
from helper import (
    AsInterfaceSays,
    NotAsTold,
    all_graphs,
    all_joined,
    bits,
    forts_by_sets,
    graph,
    members,
    path,
    rest_by_sets,
    ring,
    some_graphs,
)


class Corners(unittest.TestCase):
    def test_nothing_coloured(self):
        for near in ([0], path(5), ring(6), all_joined(16), [0] * 16):
            self.assertEqual(rest(0, near), [len(near), (1 << len(near)) - 1])

    def test_one_node(self):
        self.assertEqual(rest(0, [0]), [1, 1])
        self.assertEqual(rest(1, [0]), [-61])

    def test_two_nodes(self):
        self.assertEqual(rest(0, path(2)), [2, 3])
        for s in (1, 2, 3):
            self.assertEqual(rest(s, path(2)), [-61])

    def test_a_node_without_neighbours(self):
        near = graph(4, [(0, 1), (1, 2)])
        self.assertEqual(rest(bits(0), near), [1, bits(3)])
        self.assertEqual(rest(bits(3), near), [3, bits(0, 1, 2)])
        self.assertEqual(rest(bits(0, 3), near), [-61])
        self.assertEqual(rest(bits(0, 2), [0, 0, 0]), [1, bits(1)])

    def test_a_path_from_an_end(self):
        for n in range(1, 17):
            self.assertEqual(rest(1, path(n)), [-61])
            self.assertEqual(rest(1 << (n - 1), path(n)), [-61])

    def test_a_path_from_the_middle(self):
        self.assertEqual(rest(bits(2), path(5)), [4, bits(0, 1, 3, 4)])
        self.assertEqual(rest(bits(1, 3), path(5)), [3, bits(0, 2, 4)])
        self.assertEqual(rest(bits(2, 3), path(5)), [-61])

    def test_a_ring(self):
        for n in range(3, 17):
            every = (1 << n) - 1
            self.assertEqual(rest(bits(0), ring(n)), [n - 1, every ^ bits(0)])
            self.assertEqual(rest(bits(0, 1), ring(n)), [-61])
            self.assertEqual(rest(bits(0, n - 1), ring(n)), [-61])
        self.assertEqual(rest(bits(0, 2), ring(6)), [4, bits(1, 3, 4, 5)])
        self.assertEqual(rest(bits(0, 2, 4), ring(6)), [3, bits(1, 3, 5)])

    def test_all_joined_with_all(self):
        for n in range(3, 17):
            every = (1 << n) - 1
            self.assertEqual(rest(every ^ bits(0), all_joined(n)), [-61])
            self.assertEqual(rest(every ^ bits(n - 1), all_joined(n)), [-61])
            self.assertEqual(rest(every ^ bits(0, n - 1), all_joined(n)), [2, bits(0, n - 1)])
            self.assertEqual(rest(bits(0), all_joined(n)), [n - 1, every ^ bits(0)])

    def test_two_parts(self):
        near = graph(7, [(0, 1), (1, 2), (3, 4), (4, 5), (5, 6), (6, 3)])
        self.assertEqual(rest(bits(0), near), [4, bits(3, 4, 5, 6)])
        self.assertEqual(rest(bits(3, 4), near), [3, bits(0, 1, 2)])
        self.assertEqual(rest(bits(0, 3), near), [3, bits(4, 5, 6)])
        self.assertEqual(rest(bits(0, 3, 4), near), [-61])

    def test_a_node_that_two_force_at_once(self):
        self.assertEqual(rest(bits(0, 2), path(3)), [-61])
        self.assertEqual(rest(bits(0, 2), path(3) + [0]), [1, bits(3)])
        # Nodes 0 and 1 force node 2 at once; node 2 has then two bare neighbours.
        near = graph(5, [(0, 2), (1, 2), (2, 3), (2, 4)])
        self.assertEqual(rest(bits(0, 1), near), [2, bits(3, 4)])

    def test_all_coloured_at_first(self):
        for n in range(1, 17):
            for near in ([0] * n, path(n), all_joined(n)):
                self.assertEqual(rest((1 << n) - 1, near), [-61])

    def test_sixteen_nodes(self):
        self.assertEqual(rest(bits(15), [0] * 16), [15, 32767])
        self.assertEqual(rest(32767, [0] * 16), [1, 32768])
        grid = graph(16, [(k, k + 4) for k in range(12)] + [(k, k + 1) for k in range(16) if k % 4 != 3])
        self.assertEqual(rest(bits(0, 1, 2, 3), grid), [-61])
        self.assertEqual(rest(bits(12, 13, 14), grid), [10, 65535 ^ bits(4, 8, 9, 12, 13, 14)])


class BesideForced(unittest.TestCase):
    def test_together_all_nodes_and_none_in_both(self):
        for n in range(1, 17):
            for near in some_graphs(n, 24):
                for s in range(0, 1 << n, max(1, (1 << n) // 29)):
                    self.assert_parted(s, near)

    def assert_parted(self, s, near):
        how_many, coloured, steps = forced(s, near)
        if how_many == len(near):
            self.assertEqual(rest(s, near), [-61])
            return
        count, left = rest(s, near)
        self.assertEqual(coloured | left, (1 << len(near)) - 1, (s, near))
        self.assertEqual(coloured & left, 0, (s, near))
        self.assertEqual(how_many + count, len(near), (s, near))


class Refusals(NotAsTold, unittest.TestCase):
    call = staticmethod(rest)


class AgainstAnother(unittest.TestCase):
    """The same answers as those reckoned with Python's own sets."""

    def assert_alike(self, s, near):
        self.assertEqual(rest(s, near), rest_by_sets(s, near), (s, near))

    def test_every_small_graph(self):
        for n in range(1, 6):
            for near in all_graphs(n):
                for s in range((1 << n) + 1):
                    self.assert_alike(s, near)

    def test_every_short_list_whether_a_graph_or_not(self):
        for n in range(4):
            for near in itertools.product(range(16), repeat=n):
                for s in (0, 1, 2, 5, 7, 8):
                    self.assert_alike(s, list(near))

    def test_some_greater_graphs(self):
        for n in range(6, 17):
            for near in some_graphs(n, 36):
                for s in range(1, 1 << n, max(1, (1 << n) // 41)):
                    self.assert_alike(s, near)

    def test_left_is_just_what_lies_in_a_fort_without_colour(self):
        for n in range(1, 5):
            for near in all_graphs(n):
                self.assert_left_are_forts(near)
        for n in range(5, 8):
            for near in some_graphs(n, 12):
                self.assert_left_are_forts(near)

    def assert_left_are_forts(self, near):
        forts = forts_by_sets(near)
        for s in range(1 << len(near)):
            left = set().union(*[inside for inside in forts if not inside & members(s)])
            self.assertEqual(rest(s, near), [len(left), bits(*left)] if left else [-61], (s, near))


class Interface(AsInterfaceSays, unittest.TestCase):
    call = staticmethod(rest)

    def length(self, near):
        return 2


if __name__ == "__main__":
    unittest.main()
