"""Promise 2: told."""

import itertools
import unittest

from forcednodes.forcing import forced, told
from helper import (
    AsInterfaceSays,
    NotAsTold,
    all_graphs,
    all_joined,
    bits,
    graph,
    members,
    path,
    ring,
    some_graphs,
    told_by_sets,
)

AT_FIRST = (0, 255)
NEVER = (255, 255)


def flat(steps, *of_nodes):
    answer = [steps]
    for step, forcer in of_nodes:
        answer += [step, forcer]
    return answer


class Corners(unittest.TestCase):
    def test_nothing_coloured(self):
        for near in ([0], path(5), ring(6), all_joined(16)):
            self.assertEqual(told(0, near), flat(0, *[NEVER] * len(near)))

    def test_one_node(self):
        self.assertEqual(told(0, [0]), [0, 255, 255])
        self.assertEqual(told(1, [0]), [0, 0, 255])

    def test_two_nodes(self):
        self.assertEqual(told(1, path(2)), [1, 0, 255, 1, 0])
        self.assertEqual(told(2, path(2)), [1, 1, 1, 0, 255])
        self.assertEqual(told(3, path(2)), [0, 0, 255, 0, 255])

    def test_a_node_without_neighbours_is_neither_forced_nor_forces(self):
        near = graph(4, [(0, 1), (1, 2)])
        self.assertEqual(told(bits(0), near), flat(2, AT_FIRST, (1, 0), (2, 1), NEVER))
        self.assertEqual(told(bits(3), near), flat(0, NEVER, NEVER, NEVER, AT_FIRST))
        self.assertEqual(told(bits(0, 3), near), flat(2, AT_FIRST, (1, 0), (2, 1), AT_FIRST))
        self.assertEqual(told(bits(0, 2), [0, 0, 0]), flat(0, AT_FIRST, NEVER, AT_FIRST))

    def test_a_path_from_an_end(self):
        for n in range(1, 17):
            upwards = [(k, k - 1) for k in range(1, n)]
            downwards = [(n - 1 - k, k + 1) for k in range(n - 1)]
            self.assertEqual(told(1, path(n)), flat(n - 1, AT_FIRST, *upwards))
            self.assertEqual(told(1 << (n - 1), path(n)), flat(n - 1, *downwards, AT_FIRST))

    def test_a_path_from_the_middle(self):
        self.assertEqual(told(bits(2), path(5)), flat(0, NEVER, NEVER, AT_FIRST, NEVER, NEVER))
        self.assertEqual(told(bits(2, 3), path(5)), flat(2, (2, 1), (1, 2), AT_FIRST, AT_FIRST, (1, 3)))
        self.assertEqual(told(bits(1, 3), path(5)), flat(0, NEVER, AT_FIRST, NEVER, AT_FIRST, NEVER))

    def test_a_ring(self):
        self.assertEqual(told(bits(0), ring(4)), flat(0, AT_FIRST, NEVER, NEVER, NEVER))
        self.assertEqual(told(bits(0, 1), ring(6)), flat(2, AT_FIRST, AT_FIRST, (1, 1), (2, 2), (2, 5), (1, 0)))
        # Behind both ways round, nodes 3 and 5 force node 4 at once.
        self.assertEqual(
            told(bits(0, 1), ring(7)), flat(3, AT_FIRST, AT_FIRST, (1, 1), (2, 2), (3, 3), (2, 6), (1, 0))
        )

    def test_all_joined_with_all(self):
        for n in range(3, 17):
            near = all_joined(n)
            every = (1 << n) - 1
            for bare in range(n):
                of_nodes = [AT_FIRST] * n
                of_nodes[bare] = (1, 1 if bare == 0 else 0)
                self.assertEqual(told(every ^ bits(bare), near), flat(1, *of_nodes))
            self.assertEqual(told(every ^ bits(0, n - 1), near), flat(0, NEVER, *[AT_FIRST] * (n - 2), NEVER))
            self.assertEqual(told(every, near), flat(0, *[AT_FIRST] * n))

    def test_two_parts(self):
        near = graph(7, [(0, 1), (1, 2), (3, 4), (4, 5), (5, 6), (6, 3)])
        self.assertEqual(told(bits(0), near), flat(2, AT_FIRST, (1, 0), (2, 1), NEVER, NEVER, NEVER, NEVER))
        self.assertEqual(told(bits(3, 4), near), flat(1, NEVER, NEVER, NEVER, AT_FIRST, AT_FIRST, (1, 4), (1, 3)))
        self.assertEqual(
            told(bits(0, 3, 4), near), flat(2, AT_FIRST, (1, 0), (2, 1), AT_FIRST, AT_FIRST, (1, 4), (1, 3))
        )

    def test_a_node_that_two_force_at_once(self):
        self.assertEqual(told(bits(0, 2), path(3)), flat(1, AT_FIRST, (1, 0), AT_FIRST))
        self.assertEqual(told(bits(0, 4), path(5)), flat(2, AT_FIRST, (1, 0), (2, 1), (1, 4), AT_FIRST))
        star = graph(4, [(0, 3), (1, 3), (2, 3)])
        self.assertEqual(told(bits(0, 1, 2), star), flat(1, AT_FIRST, AT_FIRST, AT_FIRST, (1, 0)))
        self.assertEqual(told(bits(1, 2), star), flat(2, (2, 3), AT_FIRST, AT_FIRST, (1, 1)))

    def test_sixteen_nodes(self):
        self.assertEqual(told(0, [0] * 16), flat(0, *[NEVER] * 16))
        self.assertEqual(told(bits(15), [0] * 16), flat(0, *[NEVER] * 15, AT_FIRST))
        self.assertEqual(told(65535, [0] * 16), flat(0, *[AT_FIRST] * 16))
        upwards = [(k, k - 1) for k in range(1, 8)]
        downwards = [(15 - k, k + 1) for k in range(8, 15)]
        self.assertEqual(told(bits(0, 15), ring(16)), flat(7, AT_FIRST, *upwards, *downwards, AT_FIRST))
        grid = graph(16, [(k, k + 4) for k in range(12)] + [(k, k + 1) for k in range(16) if k % 4 != 3])
        self.assertEqual(
            told(bits(0, 1, 2, 3), grid), flat(3, *[AT_FIRST] * 4, *[(k // 4, k - 4) for k in range(4, 16)])
        )


class WhenAndByWhom(unittest.TestCase):
    def test_each_kind_of_node_in_one_answer(self):
        near = graph(6, [(0, 1), (1, 2), (2, 3), (3, 4), (3, 5)])
        self.assertEqual(told(bits(0), near), flat(3, AT_FIRST, (1, 0), (2, 1), (3, 2), NEVER, NEVER))

    def test_who_has_another_bare_neighbour_is_not_the_forcer(self):
        # Node 0 is the lesser neighbour of node 3, but has node 2 bare beside it.
        near = graph(4, [(0, 2), (0, 3), (1, 3)])
        self.assertEqual(told(bits(0, 1), near), flat(2, AT_FIRST, AT_FIRST, (2, 0), (1, 1)))

    def test_who_is_coloured_in_the_same_step_is_not_the_forcer(self):
        near = graph(4, [(0, 1), (0, 2), (1, 3)])
        self.assertEqual(told(bits(2, 3), near), flat(1, (1, 2), (1, 3), AT_FIRST, AT_FIRST))

    def test_who_is_coloured_later_is_not_the_forcer(self):
        # Node 1 is coloured at step 1 by node 3; its neighbour 0 is coloured behind it, by node 1 itself.
        near = graph(4, [(0, 1), (1, 3), (3, 2)])
        self.assertEqual(told(bits(2, 3), near), flat(2, (2, 1), (1, 3), AT_FIRST, AT_FIRST))

    def test_one_that_waits_forces_later(self):
        # Node 1 has two bare neighbours until node 0 has forced node 2.
        near = graph(4, [(0, 2), (1, 2), (1, 3)])
        self.assertEqual(told(bits(1), near), flat(0, NEVER, AT_FIRST, NEVER, NEVER))
        self.assertEqual(told(bits(0, 1), near), flat(2, AT_FIRST, AT_FIRST, (1, 0), (2, 1)))

    def test_many_in_one_step(self):
        matching = graph(16, [(k, k + 8) for k in range(8)])
        self.assertEqual(told(255, matching), flat(1, *[AT_FIRST] * 8, *[(1, k) for k in range(8)]))
        self.assertEqual(told(65280, matching), flat(1, *[(1, k + 8) for k in range(8)], *[AT_FIRST] * 8))

    def test_it_agrees_with_forced(self):
        for n in range(1, 17):
            for near in some_graphs(n, 12):
                for s in range(0, 1 << n, max(1, (1 << n) // 29)):
                    answer = told(s, near)
                    self.assertEqual(len(answer), 2 * n + 1)
                    coloured = [node for node in range(n) if answer[1 + 2 * node] != 255]
                    self.assertEqual(forced(s, near), [len(coloured), bits(*coloured), answer[0]])
                    self.assertEqual(answer[0], max([answer[1 + 2 * node] for node in coloured], default=0))

    def test_the_forcer_had_no_other_bare_neighbour(self):
        for n in range(1, 17):
            for near in some_graphs(n, 12):
                for s in range(0, 1 << n, max(1, (1 << n) // 29)):
                    self.assert_forcers(told(s, near), near)

    def assert_forcers(self, answer, near):
        when = answer[1::2]
        for node, (step, forcer) in enumerate(zip(when, answer[2::2])):
            could = [
                other
                for other in sorted(members(near[node]))
                if when[other] < step and all(when[third] < step for third in members(near[other]) - {node})
            ]
            self.assertEqual(forcer, could[0] if 0 < step < 255 else 255, (answer, near))


class Refusals(NotAsTold, unittest.TestCase):
    call = staticmethod(told)


class AgainstAnother(unittest.TestCase):
    """The same answers as those reckoned with Python's own sets."""

    def assert_alike(self, s, near):
        self.assertEqual(told(s, near), told_by_sets(s, near), (s, near))

    def test_every_small_graph(self):
        for n in range(1, 6):
            for near in all_graphs(n):
                for s in range((1 << n) + 1):
                    self.assert_alike(s, near)

    def test_every_short_list_whether_a_graph_or_not(self):
        for n in range(4):
            for near in itertools.product(range(16), repeat=n):
                for s in (0, 1, 2, 5, 8):
                    self.assert_alike(s, list(near))

    def test_some_greater_graphs(self):
        for n in range(6, 17):
            for near in some_graphs(n, 36):
                for s in range(1, 1 << n, max(1, (1 << n) // 41)):
                    self.assert_alike(s, near)


class Interface(AsInterfaceSays, unittest.TestCase):
    call = staticmethod(told)

    def length(self, near):
        return 2 * len(near) + 1


if __name__ == "__main__":
    unittest.main()
