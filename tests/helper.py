"""For the tests: graphs made from their edges, answers reckoned in another way, and what all functions must keep to."""

import contextlib
import io
import itertools


def graph(n, edges):
    near = [0] * n
    for a, b in edges:
        near[a] |= 1 << b
        near[b] |= 1 << a
    return near


def bits(*nodes):
    return sum(1 << node for node in nodes)


def path(n):
    return graph(n, [(k, k + 1) for k in range(n - 1)])


def ring(n):
    return graph(n, [(k, (k + 1) % n) for k in range(n)])


def all_joined(n):
    return graph(n, pairs(n))


def pairs(n):
    return [(a, b) for a in range(n) for b in range(a + 1, n)]


def all_graphs(n):
    for choice in range(1 << len(pairs(n))):
        yield graph(n, [pair for k, pair in enumerate(pairs(n)) if choice >> k & 1])


def some_graphs(n, how_many):
    """Graphs on n nodes, sparse ones to dense ones, the same ones each time."""
    state = 12345 + n
    for turn in range(how_many):
        edges = []
        for pair in pairs(n):
            state = (state * 1103515245 + 12345) % 2147483648
            if (state >> 16) % 12 <= turn % 12:
                edges.append(pair)
        yield graph(n, edges)


def members(number):
    return {k for k in range(number.bit_length()) if number >> k & 1}


def is_graph_by_sets(near):
    nodes = set(range(len(near)))
    if not 1 <= len(nodes) <= 16:
        return False
    arrows = {(a, b) for a in nodes for b in members(near[a])}
    return all(b in nodes and a != b and (b, a) in arrows for a, b in arrows)


def is_as_told_by_sets(s, near):
    return is_graph_by_sets(near) and members(s) <= set(range(len(near)))


def forced_by_sets(s, near):
    if not is_as_told_by_sets(s, near):
        return [-22]
    neighbours = [members(number) for number in near]
    layers = [members(s)]
    while True:
        coloured = set().union(*layers)
        layer = set()
        for node in coloured:
            bare = neighbours[node] - coloured
            if len(bare) == 1:
                layer |= bare
        if not layer:
            return [len(coloured), bits(*coloured), len(layers) - 1]
        layers.append(layer)


def told_by_sets(s, near):
    if not is_as_told_by_sets(s, near):
        return [-22]
    neighbours = [members(number) for number in near]
    when = {node: 0 for node in members(s)}
    by = {}
    step = 0
    while True:
        bare = {node: neighbours[node] - set(when) for node in when}
        arrows = [(node, other) for node in bare for other in bare[node] if len(bare[node]) == 1]
        if not arrows:
            break
        step += 1
        for node, other in arrows:
            when[other] = step
            by[other] = min(node, by.get(other, node))
    answer = [step]
    for node in range(len(near)):
        answer += [when.get(node, 255), by.get(node, 255)]
    return answer


def rest_by_sets(s, near):
    if not is_as_told_by_sets(s, near):
        return [-22]
    left = set(range(len(near))) - members(forced_by_sets(s, near)[1])
    return [len(left), bits(*left)] if left else [-61]


def is_fort_by_sets(inside, near):
    """Whether it isn't empty, and nobody outside has just one node of it as a neighbour."""
    outside = set(range(len(near))) - inside
    return bool(inside) and all(len(members(near[node]) & inside) != 1 for node in outside)


def forts_by_sets(near):
    sets = [members(number) for number in range(1 << len(near))]
    return [inside for inside in sets if is_fort_by_sets(inside, near)]


def fort_by_sets(f, near):
    if not is_as_told_by_sets(f, near):
        return [-22]
    return [1 if is_fort_by_sets(members(f), near) else 0]


def fewest_by_sets(near):
    if not is_graph_by_sets(near):
        return [-22]
    if len(near) > 12:
        return [-28]
    every = (1 << len(near)) - 1
    for size in range(len(near) + 1):
        sets = [bits(*chosen) for chosen in itertools.combinations(range(len(near)), size)]
        found = [s for s in sets if forced_by_sets(s, near)[1] == every]
        if found:
            return [size, min(found)]


class Unchanging(list):
    """A list that fails when somebody changes it, even if only for a while."""

    def refuse(self, *args, **kwargs):
        raise AssertionError("what is handed in was changed")

    append = clear = extend = insert = pop = remove = reverse = sort = refuse
    __setitem__ = __delitem__ = __iadd__ = __imul__ = refuse


class NoGraph:
    """A graph that isn't as told: call gives back [-22] alone, whatever set is handed in with it."""

    def assert_refused(self, s, near):
        self.assertEqual(self.call(s, near), [-22], (s, near))

    def test_no_node_at_all(self):
        for s in (0, 1, 4294967295):
            self.assert_refused(s, [])

    def test_more_than_sixteen_nodes(self):
        for n in range(17, 31):
            for s in (0, 1, 65535, (1 << n) - 1, 4294967295):
                self.assert_refused(s, [0] * n)
            self.assert_refused(0, path(16) + [0] * (n - 16))
            self.assert_refused(0, [65535] * n)

    def test_its_own_neighbour(self):
        for s in (0, 1):
            self.assert_refused(s, [1])
        for n in range(1, 17):
            for node in range(n):
                near = path(n)
                near[node] |= 1 << node
                self.assert_refused(0, near)
                self.assert_refused((1 << n) - 1, near)

    def test_a_neighbour_that_does_not_have_that_one(self):
        self.assert_refused(0, [2, 0])
        self.assert_refused(0, [0, 1])
        self.assert_refused(0, [2, 4, 1])
        for n in range(2, 17):
            for a, b in itertools.permutations(range(n), 2):
                near = [0] * n
                near[a] = 1 << b
                self.assert_refused(1, near)
                self.assert_refused((1 << n) - 1, near)

    def test_a_neighbour_that_is_no_node(self):
        self.assert_refused(0, [2])
        self.assert_refused(1, [32768])
        for n in range(1, 16):
            for stranger in range(n, 16):
                for node in (0, n - 1):
                    near = path(n)
                    near[node] |= 1 << stranger
                    self.assert_refused(0, near)
                    self.assert_refused((1 << n) - 1, near)


class NotAsTold(NoGraph):
    """A set and a graph of which one isn't as told: call gives back [-22] alone."""

    def test_a_bit_of_no_node(self):
        for n in range(1, 17):
            for bit in range(n, 32):
                self.assert_refused(1 << bit, path(n))
                self.assert_refused(1 | 1 << bit, path(n))
            self.assert_refused(4294967295, path(n))
            self.assert_refused(1 << n, all_joined(n))

    def test_both_at_once(self):
        self.assert_refused(4294967295, [1])
        self.assert_refused(2, [2])


class AsInterfaceSays:
    """What holds of each call(s, near), whatever it answers; length tells how long an answer is.

    SET is what the call names the set that it is handed.
    """

    SET = "s"
    CALLS = (
        (bits(0), path(6)),
        (bits(2), path(5)),
        (bits(0, 1), ring(16)),
        (bits(0, 2), ring(16)),
        (bits(0, 2), ring(4)),
        (bits(0, 1, 2, 3), path(4)),
        (0, path(4)),
        (4294967295, path(3)),
        (0, []),
        (1, [1]),
        (7, [2, 0, 0]),
    )

    def test_a_list_of_whole_numbers(self):
        for s, near in self.CALLS:
            answer = self.call(s, near)
            self.assertIs(type(answer), list)
            self.assertTrue(all(type(number) is int for number in answer), answer)
            self.assertEqual(len(answer), 1 if answer[0] < 0 else self.length(near))

    def test_what_is_handed_in_is_not_changed(self):
        for s, near in self.CALLS:
            watched = Unchanging(near)
            self.call(s, watched)
            self.assertEqual(list(watched), near)

    def test_nothing_is_kept(self):
        first = [self.call(s, list(near)) for s, near in self.CALLS]
        for answer in [self.call(s, list(near)) for s, near in self.CALLS]:
            answer.append(99)
        for (s, near), answer in reversed(list(zip(self.CALLS, first))):
            self.assertEqual(self.call(s, near), answer)
            self.assertEqual(self.call(s, near), answer)

    def test_the_same_list_with_another_graph_in_it(self):
        near = path(4)
        of_path = self.call(bits(0, 2), near)
        near[:] = ring(4)
        self.assertEqual(self.call(bits(0, 2), near), self.call(bits(0, 2), ring(4)))
        self.assertNotEqual(self.call(bits(0, 2), near), of_path)

    def test_the_arguments_by_name(self):
        self.assertEqual(self.call(**{"near": path(3), self.SET: 2}), self.call(2, path(3)))

    def test_it_prints_nothing(self):
        out, err = io.StringIO(), io.StringIO()
        with contextlib.redirect_stdout(out), contextlib.redirect_stderr(err):
            for s, near in self.CALLS:
                self.call(s, near)
        self.assertEqual(out.getvalue() + err.getvalue(), "")
