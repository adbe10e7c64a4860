"""Rings: what a node can do again and again, each time with a sum below 0, and walks that do so.

A hop (node, part, weight, name, others) goes by a rule from its node to one place of its outcome, with the
nodes at all other places beside it.
"""

from farhandles.trees import Trees, sum_of

MOST_RINGS = 12


class Ring:
    """Hops from a node back to it, with trees of at most so many levels beside them."""

    def __init__(self, trees, level, hops):
        self.trees = trees
        self.level = level
        self.hops = hops
        self.node = hops[0][0]
        self.total, self.length = divmod(weight_along(hops, trees.tables[level]), trees.scale)

    def walk(self):
        """The names of the rules of the ring."""
        return walk_along(self.trees, self.hops, self.level)


def sink_of(trees):
    """(walk to a node, the node, walk round it with a sum below 0), None if the trees are bounded."""
    if trees.bounded:
        return None
    ring = first_ring(trees)
    walk = [name for _, _, _, name, _ in paths_of(trees)[ring.node]]
    return (walk, ring.node, ring.walk())


def can_come_to(trees, most):
    """Whether a tree of the root has a sum of at most this."""
    return not trees.bounded or trees.least_sums()[trees.root] <= most


def walk_within(trees, most):
    """A walk of a whole tree of the root with a sum of at most this, None if there is none.

    Of several ways to such a walk that with the fewest rules is taken.
    """
    rings = rings_of(trees)
    plans = tree_plans(trees, most)
    for number, ring in enumerate(rings):
        plans.extend(ring_plans(trees, most, number, ring))
    if not plans:
        return None
    _, number, level, times = min(plans)
    if number < 0:
        return trees.walk_of(trees.root, level)
    ring = rings[number]
    walk = walk_along(trees, paths_of(trees)[ring.node], level)
    walk.extend(ring.walk() * times)
    walk.extend(trees.walk_of(ring.node, level))
    return walk


def tree_plans(trees, most):
    """The tuples (rules, -1, level, 0) of least trees of the root that have a sum of at most this."""
    return [
        (table[trees.root] % trees.scale, -1, level, 0)
        for level, table in enumerate(trees.tables)
        if trees.root in table and table[trees.root] // trees.scale <= most
    ]


def ring_plans(trees, most, number, ring):
    """The tuples (rules, number, level, times) of trees with such a sum that go round the ring so many times."""
    path = paths_of(trees)[ring.node]
    plans = []
    for level, table in enumerate(trees.tables):
        weight = weight_along(path, table)
        if weight is not None and ring.node in table:
            total, length = divmod(weight + table[ring.node], trees.scale)
            times = falls_for(total - most, -ring.total)
            plans.append((length + times * ring.length, number, level, times))
    return plans


def falls_for(excess, fall):
    """How many falls take away all of the excess."""
    return max(0, (excess + fall - 1) // fall)


def rings_of(trees):
    """Some rings, none if the trees are bounded; each falls faster, for each of its rules, than the one before."""
    rings = []
    total, length = 0, 1
    while len(rings) < MOST_RINGS:
        faster = repriced(trees, total, length)
        if faster.bounded:
            return rings
        ring = first_ring(faster)
        ring.total = (ring.total + total * ring.length) // length
        total, length = ring.total, ring.length
        rings.append(ring)
    return rings


def repriced(trees, total, length):
    """The trees with prices by which a ring has a sum below 0 if it falls faster than by this total at this length."""
    rules = [
        (name, node, outcome, weight // trees.scale * length - total)
        for name, node, outcome, weight in trees.steps
    ]
    return Trees(rules, trees.root, trees.resting)


def first_ring(trees):
    """A ring with a sum below 0 of trees that aren't bounded, with as few levels beside it as can be."""
    hops = hops_of(trees)
    for level, table in enumerate(trees.tables):
        found = hops_round(trees.nodes, hops, table)
        if found is not None:
            return Ring(trees, level, turned_round(found, paths_of(trees)))
    return None


def hops_round(nodes, hops, table):
    """Hops from a node back to it with a weight below 0, None if there are none."""
    weights = [(hop, weight_along([hop], table)) for hop in hops]
    possible = [(hop, weight) for hop, weight in weights if weight is not None]
    least = {node: 0 for node in nodes}
    last = {}
    lowered = None
    for _ in nodes:
        lowered = None
        for hop, weight in possible:
            if least[hop[0]] + weight < least[hop[1]]:
                least[hop[1]] = least[hop[0]] + weight
                last[hop[1]] = hop
                lowered = hop[1]
        if lowered is None:
            return None
    # What is still lowered is so by going round, and as many hops back as there are nodes lead into the round.
    node = lowered
    for _ in nodes:
        node = last[node][0]
    found = [last[node]]
    while found[0][0] != node:
        found.insert(0, last[found[0][0]])
    return found


def turned_round(hops, paths):
    """The same hops round, beginning where the path from the root is shortest."""
    _, at = min([(len(paths[hop[0]]), at) for at, hop in enumerate(hops)])
    return hops[at:] + hops[:at]


def hops_of(trees):
    """All hops of the trees."""
    return [
        (node, part, weight, name, outcome[:at] + outcome[at + 1:])
        for name, node, outcome, weight in trees.steps
        for at, part in enumerate(outcome)
    ]


def paths_of(trees):
    """The fewest hops from the root to each node."""
    hops = hops_of(trees)
    paths = {trees.root: []}
    newest = [trees.root]
    while newest:
        reached = []
        for hop in hops:
            if hop[0] in newest and hop[1] not in paths:
                paths[hop[1]] = paths[hop[0]] + [hop]
                reached.append(hop[1])
        newest = reached
    return paths


def weight_along(hops, table):
    """The weight of the hops and of all beside them, None if the table lacks something beside."""
    total = 0
    for _, _, weight, _, others in hops:
        beside = sum_of(table, others)
        if beside is None:
            return None
        total += weight + beside
    return total


def walk_along(trees, hops, level):
    """The names of the rules of the hops, and of trees of at most so many levels beside them."""
    walk = []
    for _, _, _, name, others in hops:
        walk.append(name)
        for other in others:
            walk.extend(trees.walk_of(other, level))
    return walk
