"""Promise 6: what holds of all five together."""

import unittest

from forcednodes.forcing import fewest, forced, fort, rest, told
from helper import all_graphs, all_joined, members, path, ring, some_graphs


def small_graphs():
    for n in range(1, 6):
        yield from all_graphs(n)


def greater_graphs(most):
    for n in range(6, most + 1):
        yield from some_graphs(n, 12)


def sets_of(near):
    return range(1 << len(near))


def some_sets_of(near):
    return range(0, 1 << len(near), max(1, (1 << len(near)) // 29))


def in_the_end(s, near):
    return forced(s, near)[1]


def all_is_coloured(s, near):
    return forced(s, near)[0] == len(near)


def bare_beside(node, coloured, near):
    return members(near[node]) - members(coloured)


def next_ones(coloured, near):
    """The nodes that may be forced next, if one is forced at a time."""
    found = set()
    for node in members(coloured):
        bare = bare_beside(node, coloured, near)
        if len(bare) == 1:
            found |= bare
    return found


def ends_of_every_order(s, near):
    ends, seen, to_go = set(), {s}, [s]
    while to_go:
        coloured = to_go.pop()
        behind = {coloured | 1 << node for node in next_ones(coloured, near)}
        if not behind:
            ends.add(coloured)
        to_go += behind - seen
        seen |= behind
    return ends


class InWhateverOrder(unittest.TestCase):
    def assert_one_end(self, s, near):
        self.assertEqual(ends_of_every_order(s, near), {in_the_end(s, near)}, (s, near))

    def test_every_small_graph(self):
        for near in small_graphs():
            for s in sets_of(near):
                self.assert_one_end(s, near)

    def test_some_greater_graphs(self):
        for near in greater_graphs(9):
            for s in some_sets_of(near):
                self.assert_one_end(s, near)

    def test_what_is_told_one_after_another(self):
        for near in [*small_graphs(), *greater_graphs(16)]:
            for s in some_sets_of(near):
                self.assert_told_can_be_followed(s, near, 1)
                self.assert_told_can_be_followed(s, near, -1)

    def assert_told_can_be_followed(self, s, near, turn):
        """Step by step, within one step from the least node on or from the greatest on, as turn says."""
        answer = told(s, near)
        forces = [
            (step, turn * node, forcer)
            for node, (step, forcer) in enumerate(zip(answer[1::2], answer[2::2]))
            if 0 < step < 255
        ]
        coloured = s
        for step, turned, forcer in sorted(forces):
            node = turn * turned
            self.assertTrue(coloured >> forcer & 1, (s, near))
            self.assertEqual(bare_beside(forcer, coloured, near), {node}, (s, near))
            coloured |= 1 << node
        self.assertEqual(coloured, in_the_end(s, near), (s, near))


class MoreColouredAtFirst(unittest.TestCase):
    def assert_no_less(self, s, near):
        # One node more is enough: any greater set is come to node by node.
        end = in_the_end(s, near)
        for node in range(len(near)):
            self.assertEqual(end & ~in_the_end(s | 1 << node, near), 0, (s, node, near))

    def test_every_small_graph(self):
        for near in small_graphs():
            for s in sets_of(near):
                self.assert_no_less(s, near)

    def test_some_greater_graphs(self):
        for near in greater_graphs(16):
            for s in some_sets_of(near):
                self.assert_no_less(s, near)

    def test_the_end_itself_forces_nothing_more(self):
        for near in small_graphs():
            for s in sets_of(near):
                how_many, end, steps = forced(s, near)
                self.assertEqual(s & ~end, 0)
                self.assertEqual(forced(end, near), [how_many, end, 0])


class Forts(unittest.TestCase):
    def assert_left_is_fort(self, s, near):
        left = ((1 << len(near)) - 1) & ~in_the_end(s, near)
        if left == 0:
            self.assertEqual(rest(s, near), [-61], (s, near))
        else:
            self.assertEqual(rest(s, near), [left.bit_count(), left], (s, near))
            self.assertEqual(fort(left, near), [1], (s, near))

    def test_what_is_left_is_a_fort(self):
        for near in small_graphs():
            for s in sets_of(near):
                self.assert_left_is_fort(s, near)
        for near in greater_graphs(16):
            for s in some_sets_of(near):
                self.assert_left_is_fort(s, near)

    def assert_all_just_if_in_every_fort(self, near):
        forts = [f for f in sets_of(near) if fort(f, near) == [1]]
        for s in sets_of(near):
            in_every = all(s & f for f in forts)
            self.assertEqual(all_is_coloured(s, near), in_every, (s, near))

    def test_a_set_colours_all_just_if_it_has_a_node_of_every_fort(self):
        for near in [*small_graphs(), *greater_graphs(8)]:
            self.assert_all_just_if_in_every_fort(near)


class Fewer(unittest.TestCase):
    def assert_fewer_do_not(self, near):
        told_as_fewest = fewest(near)[0]
        neighbours = min(number.bit_count() for number in near)
        self.assertGreaterEqual(told_as_fewest, neighbours, near)
        for s in sets_of(near):
            if s.bit_count() < max(told_as_fewest, neighbours):
                self.assertFalse(all_is_coloured(s, near), (s, near))

    def test_than_told_or_than_each_node_has_neighbours(self):
        for near in [*small_graphs(), *greater_graphs(10)]:
            self.assert_fewer_do_not(near)

    def test_than_each_node_has_neighbours_where_more_than_twelve_are(self):
        for n in range(13, 17):
            for near in [ring(n), all_joined(n), *some_graphs(n, 12)]:
                neighbours = min(number.bit_count() for number in near)
                for s in some_sets_of(near):
                    if s.bit_count() < neighbours:
                        self.assertFalse(all_is_coloured(s, near), (s, near))

    def test_nothing_at_all_colours_no_graph(self):
        for near in [*small_graphs(), path(12)]:
            self.assertFalse(all_is_coloured(0, near))
            self.assertGreaterEqual(fewest(near)[0], 1)


class WhoForces(unittest.TestCase):
    def assert_no_other_bare(self, s, near):
        answer = told(s, near)
        when = answer[1::2]
        for node, (step, forcer) in enumerate(zip(when, answer[2::2])):
            if 0 < step < 255:
                self.assertIn(node, members(near[forcer]), (s, near))
                coloured_ahead = {other for other in range(len(near)) if when[other] < step}
                self.assertIn(forcer, coloured_ahead, (s, near))
                self.assertEqual(members(near[forcer]) - coloured_ahead, {node}, (s, near))

    def test_has_no_other_bare_neighbour(self):
        for near in small_graphs():
            for s in sets_of(near):
                self.assert_no_other_bare(s, near)
        for near in greater_graphs(16):
            for s in some_sets_of(near):
                self.assert_no_other_bare(s, near)


if __name__ == "__main__":
    unittest.main()
