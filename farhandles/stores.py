"""Trees of rules with a store of faults: the least sums of all that comes of a node with at most so many faults.

A step (name, outcome, weight, cost) does a rule, at no cost, or a fault, which costs one of the store. What is
left of the store is shared out among the places of the outcome. The row of a node has a number for each store
from 0 on, and as more can be done with more, no number is greater than the one before it.
"""

from farhandles.trees import scale_above


class Stores:
    """The least weights of the trees of some nodes, for stores of at most so many faults.

    A weight is a sum of prices times the scale, and the number of rules and faults, which is less than the scale.
    The first weights are a tuple (sum, number) for each node, those of some tree of it. They may only be made for
    trees that are bounded without faults: then they are so with faults, too, for nothing that is done again and
    again has any faults in it.
    """

    def __init__(self, rules, faults, first, resting, most):
        self.resting = resting
        self.most = most
        widest = max([2] + [len(rule[2]) for rule in rules])
        # A least tree has no node with the same store below itself, down to where the first weights begin.
        self.scale = scale_above(len(first) * (most + 2), widest)
        self.steps = {node: [] for node in first}
        # In the order of the names, so that the order of the rules and kinds makes no difference.
        for name, node, outcome, price in sorted(rules):
            if node in first:
                self.steps[node].append((name, outcome, price * self.scale + 1, 0))
        for name, node, outcome in sorted(faults):
            if node in first and most > 0:
                self.steps[node].append((name, outcome, 1, 1))
        self.rows = {node: [total * self.scale + number] * (most + 1) for node, (total, number) in first.items()}
        self.settle()

    def settle(self):
        """Makes the rows less until no tree has a lesser weight."""
        lesser = self.lesser_rows()
        while lesser != self.rows:
            self.rows = lesser
            lesser = self.lesser_rows()

    def lesser_rows(self):
        """The rows with one more step ahead of the trees."""
        found = {}
        for node, steps in self.steps.items():
            columns = [[0] if self.resting else [] for _ in self.rows[node]]
            for _, outcome, weight, cost in steps:
                shared = least_shared([self.rows[part] for part in outcome], self.most + 1 - cost)
                for left, number in enumerate(shared):
                    columns[left + cost].append(weight + number)
            found[node] = [min(column) for column in columns]
        return found

    def sums(self, node):
        """The least sums of a node, for each store from 0 on."""
        return [weight // self.scale for weight in self.rows[node]]

    def walk_within(self, node, most):
        """The names of a tree of the node with a sum of at most this and the least store, None if there is none."""
        stores = [left for left, total in enumerate(self.sums(node)) if total <= most]
        return self.least_walk(node, stores[0]) if stores else None

    def least_walk(self, node, left):
        """The names of a tree of the node with the least weight for the store."""
        walk = []
        plans = {}
        waiting = [(node, left)]
        while waiting:
            place = waiting.pop()
            if place not in plans:
                plans[place] = self.plan(place[0], place[1])
            names, parts = plans[place]
            walk.extend(names)
            waiting.extend(parts)
        return walk

    def plan(self, node, left):
        """The names, none or one, and the places (node, store) below, of a tree with the least weight."""
        least = self.rows[node][left]
        if self.resting and least == 0:
            return ([], [])
        for name, outcome, weight, cost in self.steps[node]:
            for shares in all_shares(len(outcome), left - cost):
                places = list(zip(outcome, shares))
                if weight + sum([self.rows[part][share] for part, share in places]) == least:
                    return ([name], places)
        return None


def least_shared(rows, many):
    """For each store from 0 on, so many of them, the least sum of numbers of the rows with all shares of it."""
    total = [0] * many
    for row in rows:
        total = [min([total[left - share] + row[share] for share in range(left + 1)]) for left in range(many)]
    return total


def all_shares(places, left):
    """All tuples of shares of the places that together are at most what is left; none if that is below 0."""
    found = [()] if left >= 0 else []
    for _ in range(places):
        found = [(*shares, share) for shares in found for share in range(left + 1 - sum(shares))]
    return found
