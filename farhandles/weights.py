"""Weights of the kinds with which rules may go untold, or bars, which show that there are none."""

from math import gcd

from farhandles.books import Book, is_among, is_integer
from farhandles.errors import BadUntold, BadWeights
from farhandles.sums import is_kind_table
from farhandles.systems import System
from farhandles.trees import sum_of
from farhandles.ways import alive


def weights(book, untold):
    """Weights for the untold rules, None if there are none."""
    system = system_of(book, untold)
    found = system.solution()
    if found is None:
        return None
    least = least_weights(book)
    kinds = sorted(book.kinds)
    numbers = smallest([least[kind] * system.scale + more for kind, more in zip(kinds, found)])
    return {kind: number for kind, number in zip(kinds, numbers)}


def bars(book, untold):
    """Bars for the untold rules, None if there are none."""
    found = system_of(book, untold).barring()
    if found is None:
        return None
    return {name: number for name, number in zip(sorted(untold), smallest(found))}


def are_weights(book, untold, value):
    """Whether any value is weights for the untold rules."""
    demand_untold(book, untold)
    if not are_numbers(book, value):
        return False
    if any([value[kind] < number for kind, number in least_weights(book).items()]):
        return False
    rules = [book.rule_named(name) for name in untold]
    return all([value[kind] == sum_of(value, outcome) for _, kind, outcome, _ in rules])


def are_bars(book, untold, value):
    """Whether any value is bars for the untold rules."""
    demand_untold(book, untold)
    if not isinstance(value, dict) or len(value) != len(untold):
        return False
    if not all([name in value and is_integer(value[name]) for name in untold]):
        return False
    sums = {kind: sum([value[name] * share_of(book, name, kind) for name in untold]) for kind in book.kinds}
    return all([number >= 0 for number in sums.values()]) and any([sums[kind] > 0 for kind in alive(book)])


def weighed(book, numbers):
    """The book with the changes and the count that go with the numbers as weights."""
    if not are_numbers(book, numbers):
        raise BadWeights(numbers)
    rules = [(name, kind, outcome, sum_of(numbers, outcome) - numbers[kind]) for name, kind, outcome, _ in book.rules]
    return Book(book.kinds, book.handles, rules, book.start, numbers[book.start])


def are_numbers(book, value):
    """Whether any value is a dict from just all kinds to integers from 0 on."""
    if not is_kind_table(book, value) or len(value) != len(book.kinds):
        return False
    return all([number >= 0 for number in value.values()])


def least_weights(book):
    """The least number that each kind may have as its weight."""
    living = alive(book)
    return {kind: 1 if kind in living else 0 for kind in book.kinds}


def share_of(book, name, kind):
    """How often the rule takes the kind away, less how often its outcome has it."""
    _, source, outcome, _ = book.rule_named(name)
    return int(source == kind) - outcome.count(kind)


def system_of(book, untold):
    """The system of what the weights are above their least numbers, with a row for each untold rule."""
    demand_untold(book, untold)
    # In the order of the names, so that the order of the book and of the untold rules makes no difference.
    kinds = sorted(book.kinds)
    least = least_weights(book)
    rows = [[share_of(book, name, kind) for kind in kinds] for name in sorted(untold)]
    goals = [-sum([factor * least[kind] for factor, kind in zip(row, kinds)]) for row in rows]
    return System(rows, goals, len(kinds))


def smallest(numbers):
    """The numbers divided by what divides them all."""
    common = 0
    for number in numbers:
        common = gcd(common, number)
    return [number // max(1, common) for number in numbers]


def demand_untold(book, value):
    """Raises BadUntold for any value that is no list of unlike names of rules."""
    names = {rule[0]: True for rule in book.rules}
    if not isinstance(value, list) or not all([is_among(name, names) for name in value]):
        raise BadUntold(value)
    if len(set(value)) != len(value):
        raise BadUntold(value)
