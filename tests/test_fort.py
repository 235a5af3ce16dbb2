"""Promise 4: fort."""

import itertools
import unittest

from forcednodes.forcing import fort, rest
from helper import (
    AsInterfaceSays,
    NotAsTold,
    all_graphs,
    all_joined,
    bits,
    fort_by_sets,
    graph,
    path,
    ring,
    some_graphs,
)


def forts_of(near):
    return [f for f in range(1 << len(near)) if fort(f, near) == [1]]


class Corners(unittest.TestCase):
    def test_the_empty_set(self):
        for n in range(1, 17):
            for near in ([0] * n, path(n), all_joined(n)):
                self.assertEqual(fort(0, near), [0])

    def test_one_node(self):
        self.assertEqual(fort(0, [0]), [0])
        self.assertEqual(fort(1, [0]), [1])

    def test_two_nodes(self):
        self.assertEqual(forts_of(path(2)), [bits(0, 1)])
        self.assertEqual(forts_of([0, 0]), [bits(0), bits(1), bits(0, 1)])

    def test_a_node_without_neighbours(self):
        near = graph(4, [(0, 1), (1, 2)])
        self.assertEqual(fort(bits(3), near), [1])
        self.assertEqual(fort(bits(0, 1, 2), near), [1])
        self.assertEqual(fort(bits(0, 2, 3), near), [1])
        self.assertEqual(fort(bits(0, 3), near), [0])
        self.assertEqual(fort(bits(1, 3), near), [0])
        self.assertEqual(forts_of([0, 0, 0]), [1, 2, 3, 4, 5, 6, 7])

    def test_all_nodes(self):
        for n in range(1, 17):
            for near in some_graphs(n, 12):
                self.assertEqual(fort((1 << n) - 1, near), [1])

    def test_one_node_with_a_neighbour(self):
        for n in range(2, 17):
            for near in (path(n), all_joined(n)):
                for node in range(n):
                    self.assertEqual(fort(bits(node), near), [0])

    def test_a_path(self):
        self.assertEqual(forts_of(path(3)), [bits(0, 2), bits(0, 1, 2)])
        self.assertEqual(forts_of(path(4)), [bits(0, 1, 3), bits(0, 2, 3), bits(0, 1, 2, 3)])
        for n in range(3, 17, 2):
            every_other = bits(*range(0, n, 2))
            self.assertEqual(fort(every_other, path(n)), [1])
            self.assertEqual(fort(every_other ^ bits(0), path(n)), [0])
            self.assertEqual(fort(every_other ^ bits(n - 1), path(n)), [0])

    def test_a_ring(self):
        self.assertEqual(forts_of(ring(4)), [5, 7, 10, 11, 13, 14, 15])
        self.assertEqual(fort(bits(0, 3), ring(6)), [0])
        self.assertEqual(fort(bits(0, 2, 3), ring(5)), [1])
        self.assertEqual(fort(bits(0, 2), ring(5)), [0])
        for n in range(4, 17, 2):
            self.assertEqual(fort(bits(*range(0, n, 2)), ring(n)), [1])
            self.assertEqual(fort(bits(*range(1, n, 2)), ring(n)), [1])
        for n in range(3, 17):
            self.assertEqual(fort(((1 << n) - 1) ^ bits(n - 1), ring(n)), [1])
        for n in range(4, 17):
            # Of two neighbours that are left out, each has just one node of the set beside it.
            self.assertEqual(fort(((1 << n) - 1) ^ bits(0, n - 1), ring(n)), [0])

    def test_all_joined_with_all(self):
        for n in range(2, 7):
            two_or_more = [f for f in range(1 << n) if f.bit_count() >= 2]
            self.assertEqual(forts_of(all_joined(n)), two_or_more)
        self.assertEqual(fort(bits(0), all_joined(16)), [0])
        self.assertEqual(fort(bits(15), all_joined(16)), [0])
        self.assertEqual(fort(bits(0, 15), all_joined(16)), [1])

    def test_two_parts(self):
        near = graph(7, [(0, 1), (1, 2), (3, 4), (4, 5), (5, 6), (6, 3)])
        self.assertEqual(fort(bits(0, 1, 2), near), [1])
        self.assertEqual(fort(bits(3, 4, 5, 6), near), [1])
        self.assertEqual(fort(bits(0, 2), near), [1])
        self.assertEqual(fort(bits(3, 5), near), [1])
        self.assertEqual(fort(bits(0, 2, 3, 5), near), [1])
        # What is a fort in one part alone doesn't make up for the other.
        self.assertEqual(fort(bits(0, 2, 3), near), [0])
        self.assertEqual(fort(bits(0, 3, 5), near), [0])

    def test_sixteen_nodes(self):
        for node in range(16):
            self.assertEqual(fort(bits(node), [0] * 16), [1])
            self.assertEqual(fort(bits(node), ring(16)), [0])
        star = graph(16, [(15, k) for k in range(15)])
        self.assertEqual(fort(bits(0, 14), star), [1])
        self.assertEqual(fort(bits(0, 15), star), [0])
        self.assertEqual(fort(bits(15), star), [0])
        self.assertEqual(fort(32767, star), [1])
        grid = graph(16, [(k, k + 4) for k in range(12)] + [(k, k + 1) for k in range(16) if k % 4 != 3])
        self.assertEqual(fort(bits(0, 5, 10, 15), grid), [1])
        self.assertEqual(fort(bits(0, 5, 10), grid), [0])
        self.assertEqual(fort(bits(5, 10, 15), grid), [0])


class FromOutside(unittest.TestCase):
    """Node 5 has as many of nodes 0 to 4 beside it as each test says; the set itself has no other neighbour."""

    def joined_to(self, how_many):
        return graph(6, [(k, 5) for k in range(how_many)])

    def test_none_of_them(self):
        for f in range(1, 32):
            self.assertEqual(fort(f, self.joined_to(0)), [1])

    def test_just_one_of_them(self):
        self.assertEqual(fort(bits(0), self.joined_to(1)), [0])
        self.assertEqual(fort(bits(0, 1, 2, 3, 4), self.joined_to(1)), [0])
        self.assertEqual(fort(bits(0), self.joined_to(5)), [0])
        self.assertEqual(fort(bits(4), self.joined_to(5)), [0])

    def test_two_and_more_of_them(self):
        for how_many in range(2, 6):
            self.assertEqual(fort(bits(*range(how_many)), self.joined_to(how_many)), [1])
            self.assertEqual(fort(bits(0, 1, 2, 3, 4), self.joined_to(how_many)), [1])

    def test_any_one_outside_is_enough(self):
        # Nodes 0 and 1 lie in the set; all of the others have both, but one has node 1 alone.
        for lone in range(2, 16):
            edges = [(k, a) for k in range(2, 16) for a in (0, 1) if (k, a) != (lone, 0)]
            self.assertEqual(fort(bits(0, 1), graph(16, edges)), [0])
            self.assertEqual(fort(bits(0, 1, lone), graph(16, edges)), [1])

    def test_who_is_inside_may_have_just_one(self):
        self.assertEqual(fort(bits(0, 1), path(2) + [0]), [1])
        self.assertEqual(fort(bits(0, 1, 2), path(3) + [0]), [1])

    def test_neighbours_outside_do_not_count(self):
        # Node 2 has two neighbours in all, but just one in the set.
        self.assertEqual(fort(bits(0), graph(3, [(0, 2), (1, 2)])), [0])
        # Node 2 has three in all, two of them in the set.
        self.assertEqual(fort(bits(0, 1), graph(4, [(0, 2), (1, 2), (2, 3)])), [1])


class BesideRest(unittest.TestCase):
    def test_what_is_left_is_a_fort(self):
        for n in range(1, 5):
            for near in all_graphs(n):
                for s in range(1 << n):
                    self.assert_left_is_fort(s, near)
        for n in range(5, 17):
            for near in some_graphs(n, 24):
                for s in range(0, 1 << n, max(1, (1 << n) // 29)):
                    self.assert_left_is_fort(s, near)

    def assert_left_is_fort(self, s, near):
        answer = rest(s, near)
        if answer != [-61]:
            self.assertEqual(fort(answer[1], near), [1], (s, near))

    def test_what_is_left_by_hand(self):
        self.assertEqual(rest(bits(2), path(5)), [4, bits(0, 1, 3, 4)])
        self.assertEqual(fort(bits(0, 1, 3, 4), path(5)), [1])


class Refusals(NotAsTold, unittest.TestCase):
    call = staticmethod(fort)

    def test_the_empty_set_of_no_graph(self):
        for near in ([], [1], [2], [2, 0], [0] * 17, [0] * 30):
            self.assert_refused(0, near)


class AgainstAnother(unittest.TestCase):
    """The same answers as those reckoned with Python's own sets."""

    def assert_alike(self, f, near):
        self.assertEqual(fort(f, near), fort_by_sets(f, near), (f, near))

    def test_every_small_graph(self):
        for n in range(1, 6):
            for near in all_graphs(n):
                for f in range((1 << n) + 1):
                    self.assert_alike(f, near)

    def test_every_short_list_whether_a_graph_or_not(self):
        for n in range(4):
            for near in itertools.product(range(16), repeat=n):
                for f in (0, 1, 2, 5, 7, 8):
                    self.assert_alike(f, list(near))

    def test_some_greater_graphs(self):
        for n in range(6, 17):
            for near in some_graphs(n, 36):
                for f in range(1, 1 << n, max(1, (1 << n) // 41)):
                    self.assert_alike(f, near)


class Interface(AsInterfaceSays, unittest.TestCase):
    call = staticmethod(fort)
    SET = "f"

    def length(self, near):
        return 1


if __name__ == "__main__":
    unittest.main()
