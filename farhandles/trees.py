"""Trees of rules: the least sums of prices that all that comes of a node can have.

What is there goes on by itself, so what is done with one of a kind is a tree: a rule, and below it a tree
for each place of its outcome. A node is a kind, perhaps with something that is kept in mind of it.
"""


class Trees:
    """The trees of a root and of all nodes that it may turn into, by rules (name, node, outcome, price).

    If nodes may rest, a tree may leave any of them as it is; if not, it goes on until nothing is left.
    The weight of a tree is its sum of prices times the scale, and its number of rules, which is always less
    than the scale. So the lesser sum weighs less, and of equal sums that of fewer rules.
    The tables, one for each number of levels, tell the least weights of trees of at most so many levels.
    """

    def __init__(self, rules, root, resting):
        self.root = root
        self.resting = resting
        self.nodes = reached_nodes(rules, root)
        steps = [rule for rule in rules if rule[1] in self.nodes]
        self.scale = scale_above(len(self.nodes), max([len(step[2]) for step in steps], default=0))
        # In the order of the names, so that the order of the rules makes no difference.
        self.steps = sorted([(name, node, outcome, price * self.scale + 1) for name, node, outcome, price in steps])
        self.tables = self.all_tables()
        # A tree of more levels than nodes has a node below itself. If such trees still weigh less, what is
        # done between the two has a sum below 0, and may be done again and again.
        self.bounded = self.tables[-1] == self.tables[-2]

    def all_tables(self):
        """The tables for 0 levels, 1 level and so on, until no more levels can tell anything."""
        tables = [{node: 0 for node in self.nodes} if self.resting else {}]
        for _ in range(len(self.nodes) + 1):
            tables.append(self.next_table(tables[-1]))
            if tables[-1] == tables[-2]:
                return tables
        return tables

    def next_table(self, table):
        """The least weights of trees of one more level."""
        larger = {node: 0 for node in self.nodes} if self.resting else {}
        for _, node, outcome, weight in self.steps:
            below = sum_of(table, outcome)
            if below is not None and (node not in larger or weight + below < larger[node]):
                larger[node] = weight + below
        return larger

    def least_sums(self):
        """The least sums of all nodes, if they are bounded."""
        return {node: weight // self.scale for node, weight in self.tables[-1].items()}

    def height(self, node, level):
        """The fewest levels with which a tree of the node weighs as little as with so many."""
        weight = self.tables[level][node]
        while level > 0 and self.tables[level - 1].get(node) == weight:
            level -= 1
        return level

    def plan(self, height, node):
        """The names, none or one, and the places (height, node) below, of a least tree of just this height."""
        if height == 0:
            return ([], [])
        table = self.tables[height - 1]
        for name, source, outcome, weight in self.steps:
            below = sum_of(table, outcome) if source == node else None
            if below is not None and weight + below == self.tables[height][node]:
                return ([name], [(self.height(part, height - 1), part) for part in outcome])
        return None

    def least_walk(self):
        """The names of the rules of a least tree of the root, if it is bounded."""
        return self.walk_of(self.root, len(self.tables) - 1)

    def walk_of(self, node, level):
        """The names of the rules of a least tree of at most so many levels, each ahead of those below it."""
        top = (self.height(node, level), node)
        plans = {}
        waiting = [top]
        while waiting:
            place = waiting.pop()
            if place not in plans:
                plans[place] = self.plan(place[0], place[1])
                waiting.extend(plans[place][1])
        walks = {}
        # The heights ascend: what stands below a place has its walk before it.
        for place in sorted(plans):
            names, parts = plans[place]
            walk = list(names)
            for part in parts:
                walk.extend(walks[part])
            walks[place] = walk
        return walks[top]


def reached_nodes(rules, root):
    """The ascending list of the nodes that the root may turn into, itself among them."""
    found = {root: True}
    waiting = [root]
    while waiting:
        node = waiting.pop()
        for _, source, outcome, _ in rules:
            if source == node:
                fresh = [part for part in outcome if part not in found]
                found.update({part: True for part in fresh})
                waiting.extend(fresh)
    return sorted(found)


def scale_above(many, widest):
    """More than the rules of all trees that are looked at, of so many nodes and parts of an outcome."""
    scale = 1
    # Such a tree has at most one level more than there are nodes, and so many of them stand along a ring.
    for _ in range(many + 3):
        scale *= widest + 2
    return scale


def sum_of(table, nodes):
    """The numbers of the nodes together, each as often as it stands there; None if the table lacks one."""
    if any([node not in table for node in nodes]):
        return None
    return sum([table[node] for node in nodes])
