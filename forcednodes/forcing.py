"""What a few coloured nodes of a graph force.

A graph is a list that has, for each node, its neighbours as bits. A set of nodes is a number, told as bits too.
"""

MOST_NODES = 16
MOST_NODES_FOR_FEWEST = 12
NOT_AS_TOLD = -22
TOO_MANY_NODES = -28
ALL_IS_COLOURED = -61
NOBODY = 255
NEVER = 255


def has_node(nodes, node):
    return (nodes >> node) & 1 == 1


def has_just_one(nodes):
    # Less one, a number loses its lowest bit and nothing above it: only a lone bit leaves nothing in common.
    return nodes != 0 and nodes & (nodes - 1) == 0


def count_nodes(nodes):
    count = 0
    left = nodes
    while left != 0:
        count = count + (left & 1)
        left = left >> 1
    return count


def all_nodes(near):
    return (1 << len(near)) - 1


def is_set_of(nodes, near):
    return nodes >> len(near) == 0


def is_node_as_told(node, near):
    if not is_set_of(near[node], near) or has_node(near[node], node):
        return False
    for other in range(len(near)):
        if has_node(near[node], other) and not has_node(near[other], node):
            return False
    return True


def is_graph(near):
    if len(near) < 1 or len(near) > MOST_NODES:
        return False
    for node in range(len(near)):
        if not is_node_as_told(node, near):
            return False
    return True


def is_as_told(s, near):
    return is_graph(near) and is_set_of(s, near)


def forced_by(node, coloured, near):
    bare = near[node] & ~coloured
    if has_node(coloured, node) and has_just_one(bare):
        return bare
    return 0


def forced_next(coloured, near):
    # All are read off the same colouring, so that who is coloured in a step forces from the next step on.
    found = 0
    for node in range(len(near)):
        found = found | forced_by(node, coloured, near)
    return found


def colourings(s, near):
    """The nodes coloured at first, then those coloured behind each step; the last are those of the end."""
    behind = [s]
    found = forced_next(s, near)
    while found != 0:
        behind.append(behind[-1] | found)
        found = forced_next(behind[-1], near)
    return behind


def least_forcer(node, coloured, near):
    for other in range(len(near)):
        if has_node(forced_by(other, coloured, near), node):
            return other
    return NOBODY


def step_and_forcer(node, behind, near):
    if has_node(behind[0], node):
        return [0, NOBODY]
    for step in range(1, len(behind)):
        if has_node(behind[step], node):
            # Who forced it did so by what was coloured ahead of the step.
            return [step, least_forcer(node, behind[step - 1], near)]
    return [NEVER, NOBODY]


def is_fort(f, near):
    if f == 0:
        return False
    for node in range(len(near)):
        if not has_node(f, node) and has_just_one(near[node] & f):
            return False
    return True


def colours_all(s, near):
    return colourings(s, near)[-1] == all_nodes(near)


def fewest_that_colour_all(near):
    best = all_nodes(near)
    # Lesser numbers come first, so that of sets with as many nodes the first found is the one to keep.
    for s in range(all_nodes(near)):
        if count_nodes(s) < count_nodes(best) and colours_all(s, near):
            best = s
    return best


def forced(s, near):
    """How many nodes are coloured in the end, which, and behind how many steps; or the refusal alone."""
    if not is_as_told(s, near):
        return [NOT_AS_TOLD]
    behind = colourings(s, near)
    return [count_nodes(behind[-1]), behind[-1], len(behind) - 1]


def told(s, near):
    """Behind how many steps, then of each node at which step it was coloured and by whom; or the refusal alone."""
    if not is_as_told(s, near):
        return [NOT_AS_TOLD]
    behind = colourings(s, near)
    answer = [len(behind) - 1]
    for node in range(len(near)):
        answer.extend(step_and_forcer(node, behind, near))
    return answer


def rest(s, near):
    """How many nodes aren't coloured in the end, and which; or the refusal alone."""
    if not is_as_told(s, near):
        return [NOT_AS_TOLD]
    left = all_nodes(near) & ~colourings(s, near)[-1]
    if left == 0:
        return [ALL_IS_COLOURED]
    return [count_nodes(left), left]


def fort(f, near):
    """1 if f is a fort, else 0; or the refusal alone."""
    if not is_as_told(f, near):
        return [NOT_AS_TOLD]
    # The answer is a whole number, never True or False.
    if is_fort(f, near):
        return [1]
    return [0]


def fewest(near):
    """How many nodes the smallest set has by which all is coloured, and the least such set; or the refusal alone."""
    if not is_graph(near):
        return [NOT_AS_TOLD]
    if len(near) > MOST_NODES_FOR_FEWEST:
        return [TOO_MANY_NODES]
    best = fewest_that_colour_all(near)
    return [count_nodes(best), best]
