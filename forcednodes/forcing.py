"""What a few coloured nodes of a graph force.

A graph is a list that has, for each node, its neighbours as bits. A set of nodes is a number, told as bits too.
"""

MOST_NODES = 16
NOT_AS_TOLD = -22


def has_node(nodes, node):
    return (nodes >> node) & 1 == 1


def has_just_one(nodes):
    # Less one, a number loses its lowest bit and nothing above it: only a lone bit leaves nothing in common.
    return nodes != 0 and nodes & (nodes - 1) == 0


def count_nodes(nodes):
    count = 0
    left = nodes
    while left != 0:
        count = count + (left & 1)
        left = left >> 1
    return count


def is_set_of(nodes, near):
    return nodes >> len(near) == 0


def is_node_as_told(node, near):
    if not is_set_of(near[node], near) or has_node(near[node], node):
        return False
    for other in range(len(near)):
        if has_node(near[node], other) and not has_node(near[other], node):
            return False
    return True


def is_graph(near):
    if len(near) < 1 or len(near) > MOST_NODES:
        return False
    for node in range(len(near)):
        if not is_node_as_told(node, near):
            return False
    return True


def forced_next(coloured, near):
    # All are read off the same colouring, so that who is coloured in a step forces from the next step on.
    found = 0
    for node in range(len(near)):
        bare = near[node] & ~coloured
        if has_node(coloured, node) and has_just_one(bare):
            found = found | bare
    return found


def forced(s, near):
    """How many nodes are coloured in the end, which, and behind how many steps; or the refusal alone."""
    if not is_graph(near) or not is_set_of(s, near):
        return [NOT_AS_TOLD]
    coloured = s
    steps = 0
    found = forced_next(coloured, near)
    while found != 0:
        coloured = coloured | found
        steps = steps + 1
        found = forced_next(coloured, near)
    return [count_nodes(coloured), coloured, steps]
