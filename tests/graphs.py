"""Graphs for the tests, made from their edges, and an answer reckoned in another way than the program's."""


def graph(n, edges):
    near = [0] * n
    for a, b in edges:
        near[a] |= 1 << b
        near[b] |= 1 << a
    return near


def bits(*nodes):
    return sum(1 << node for node in nodes)


def path(n):
    return graph(n, [(k, k + 1) for k in range(n - 1)])


def ring(n):
    return graph(n, [(k, (k + 1) % n) for k in range(n)])


def all_joined(n):
    return graph(n, pairs(n))


def pairs(n):
    return [(a, b) for a in range(n) for b in range(a + 1, n)]


def all_graphs(n):
    for choice in range(1 << len(pairs(n))):
        yield graph(n, [pair for k, pair in enumerate(pairs(n)) if choice >> k & 1])


def some_graphs(n, how_many):
    """Graphs on n nodes, sparse ones to dense ones, the same ones each time."""
    state = 12345 + n
    for turn in range(how_many):
        edges = []
        for pair in pairs(n):
            state = (state * 1103515245 + 12345) % 2147483648
            if (state >> 16) % 12 <= turn % 12:
                edges.append(pair)
        yield graph(n, edges)


def members(number):
    return {k for k in range(number.bit_length()) if number >> k & 1}


def is_graph_by_sets(near):
    nodes = set(range(len(near)))
    if not 1 <= len(nodes) <= 16:
        return False
    arrows = {(a, b) for a in nodes for b in members(near[a])}
    return all(b in nodes and a != b and (b, a) in arrows for a, b in arrows)


def forced_by_sets(s, near):
    if not is_graph_by_sets(near) or not members(s) <= set(range(len(near))):
        return [-22]
    neighbours = [members(number) for number in near]
    layers = [members(s)]
    while True:
        coloured = set().union(*layers)
        layer = set()
        for node in coloured:
            bare = neighbours[node] - coloured
            if len(bare) == 1:
                layer |= bare
        if not layer:
            return [len(coloured), bits(*coloured), len(layers) - 1]
        layers.append(layer)
