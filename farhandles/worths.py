"""Worths: what the count falls by until all of a kind is gone, whichever way."""

from farhandles.books import is_among
from farhandles.runs import changes_of, lot_behind
from farhandles.sums import ending_rules, is_kind_table, sum_along
from farhandles.trees import sum_of
from farhandles.ways import ending, first_steps, shortest_end


def worths(book):
    """The worths of the book, None if there are none."""
    found = shortest_worths(book)
    return None if unlike_rules(book, found) else found


def two_walks(book):
    """(kind, walk, walk): two walks to the empty lot with unlike sums of changes, None if there are none."""
    unlike = unlike_rules(book, shortest_worths(book))
    if not unlike:
        return None
    steps = first_steps(book)
    # The shortest of them all; the name tells equally short ones apart.
    _, name = min([
        (sum([steps[each][0] for each in (kind, *outcome)]), name)
        for name, kind, outcome, _ in unlike
    ])
    _, kind, outcome, _ = book.rule_named(name)
    walk = [name]
    for part in outcome:
        walk.extend(shortest_end(book, part))
    return (kind, walk, shortest_end(book, kind))


def are_worths(book, value):
    """Whether any value is worths of the book."""
    if not is_kind_table(book, value) or sorted(value) != ending(book):
        return False
    return not unlike_rules(book, value)


def are_two_walks(book, value):
    """Whether any value is a tuple of a kind and two such walks."""
    if not isinstance(value, tuple) or len(value) != 3 or not is_among(value[0], book.kinds):
        return False
    kind, one, other = value
    if lot_behind(book, kind, one) != {} or lot_behind(book, kind, other) != {}:
        return False
    changes = changes_of(book)
    return sum_along(changes, one) != sum_along(changes, other)


def shortest_worths(book):
    """What the count falls by on a shortest walk to the empty lot, for each kind that comes to nothing."""
    changes = changes_of(book)
    found = {}
    # The steps come with ascending numbers: a kind's outcome is in before the kind.
    for kind, (_, name, outcome) in first_steps(book).items():
        found[kind] = sum_of(found, outcome) - changes[name]
    return found


def unlike_rules(book, numbers):
    """The ending rules by which the number of the kind is not that of the outcome less the change."""
    return [rule for rule in ending_rules(book) if numbers[rule[1]] != sum_of(numbers, rule[2]) - rule[3]]
