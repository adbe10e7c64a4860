"""Least sums and end sums of prices: walks that have them, and what shows that there are none beyond."""

from farhandles.books import demand_kind, is_among, is_integer
from farhandles.errors import BadPrices, NoEnd
from farhandles.rings import sink_of
from farhandles.runs import lot_behind
from farhandles.trees import Trees, sum_of
from farhandles.ways import ending


def least_sum(book, prices, kind):
    """The least sum of all walks from the kind, None if there is none."""
    trees = walk_trees(book, prices, kind)
    return trees.least_sums()[kind] if trees.bounded else None


def end_sum(book, prices, kind):
    """The greatest sum of all walks from the kind to the empty lot, None if it has no bound."""
    trees = end_trees(book, prices, kind)
    return -trees.least_sums()[kind] if trees.bounded else None


def least_walk(book, prices, kind):
    """A walk from the kind with the least sum, None if there is none."""
    trees = walk_trees(book, prices, kind)
    return trees.least_walk() if trees.bounded else None


def sink(book, prices, kind):
    """A sink, None if there is none."""
    return sink_of(walk_trees(book, prices, kind))


def end_walk(book, prices, kind):
    """A walk from the kind to the empty lot with the end sum, None if that has no bound."""
    trees = end_trees(book, prices, kind)
    return trees.least_walk() if trees.bounded else None


def lift(book, prices, kind):
    """A lift, None if there is none."""
    return sink_of(end_trees(book, prices, kind))


def floor(book, prices, kind):
    """A floor that has the kind with its least sum, None if there is no least sum."""
    trees = walk_trees(book, prices, kind)
    return trees.least_sums() if trees.bounded else None


def roof(book, prices, kind):
    """A roof that has the kind with its end sum, None if that has no bound."""
    trees = end_trees(book, prices, kind)
    return {each: -total for each, total in trees.least_sums().items()} if trees.bounded else None


def is_floor(book, prices, value):
    """Whether any value is a floor."""
    demand_prices(book, prices)
    if not is_kind_table(book, value) or any([number > 0 for number in value.values()]):
        return False
    for name, kind, outcome, _ in book.rules:
        if kind in value:
            below = sum_of(value, outcome)
            if below is None or value[kind] > prices[name] + below:
                return False
    return True


def is_roof(book, prices, value):
    """Whether any value is a roof."""
    demand_prices(book, prices)
    if not is_kind_table(book, value):
        return False
    for name, kind, outcome, _ in ending_rules(book):
        if kind in value:
            below = sum_of(value, outcome)
            if below is None or value[kind] < prices[name] + below:
                return False
    return True


def is_sink(book, prices, kind, value):
    """Whether any value is a sink for the kind."""
    demand(book, prices, kind)
    there, again = lots_told(book, kind, value)
    if there is None or again is None:
        return False
    _, node, ring = value
    return node in there and node in again and sum_along(prices, ring) < 0


def is_lift(book, prices, kind, value):
    """Whether any value is a lift for the kind."""
    demand(book, prices, kind)
    there, again = lots_told(book, kind, value)
    if there is None or again is None:
        return False
    _, node, ring = value
    nothing_ahead = ending(book)
    all_end = all([each in nothing_ahead for each in there])
    return node in there and all_end and again == {node: 1} and sum_along(prices, ring) > 0


def lots_told(book, kind, value):
    """What is there behind the walk and the ring of any value as a sink or a lift, None where it is none."""
    if not isinstance(value, tuple) or len(value) != 3 or not is_among(value[1], book.kinds):
        return (None, None)
    walk, node, ring = value
    return (lot_behind(book, kind, walk), lot_behind(book, node, ring))


def sum_along(prices, walk):
    """The sum of the prices of a walk."""
    return sum([prices[name] for name in walk])


def is_kind_table(book, value):
    """Whether any value is a dict from kinds to integers."""
    if not isinstance(value, dict):
        return False
    kinds = book.kinds
    return all([is_among(kind, kinds) and is_integer(number) for kind, number in value.items()])


def ending_rules(book):
    """The rules all kinds of whose outcomes come to nothing."""
    nothing_ahead = ending(book)
    return [rule for rule in book.rules if all([part in nothing_ahead for part in rule[2]])]


def walk_trees(book, prices, kind):
    """The trees of all walks from the kind."""
    demand(book, prices, kind)
    return Trees([(name, source, outcome, prices[name]) for name, source, outcome, _ in book.rules], kind, True)


def end_trees(book, prices, kind):
    """The trees of all walks from the kind to the empty lot; their least sums are the end sums with - ahead."""
    demand(book, prices, kind)
    if kind not in ending(book):
        raise NoEnd(kind)
    rules = ending_rules(book)
    return Trees([(name, source, outcome, -prices[name]) for name, source, outcome, _ in rules], kind, False)


def demand(book, prices, kind):
    """Raises BadPrices, or else NoKind, for any value that is none."""
    demand_prices(book, prices)
    demand_kind(book, kind)


def demand_prices(book, value):
    """Raises BadPrices for any value that is no dict from just the names of the rules to integers."""
    names = [rule[0] for rule in book.rules]
    if not isinstance(value, dict) or len(value) != len(names):
        raise BadPrices(value)
    if not all([name in value and is_integer(value[name]) for name in names]):
        raise BadPrices(value)
