"""Names and books of rules."""

from farhandles.errors import BadCount, BadHandles, BadKinds, BadRule, BadRules, BadStart
from farhandles.errors import NamedTwice, NoKind, NoRule

LETTERS = "abcdefghijklmnopqrstuvwxyz"
LONGEST_NAME = 8


def is_name(value):
    """Whether any value is a name: one to eight letters from a to z."""
    if not isinstance(value, str) or len(value) < 1 or len(value) > LONGEST_NAME:
        return False
    return all([letter in LETTERS for letter in value])


def is_integer(value):
    """Whether any value is an int that is not a bool."""
    return isinstance(value, int) and not isinstance(value, bool)


def is_among(value, names):
    """Whether any value is one of the names, a list or a dict."""
    # A dict can't be asked for what has no hash, such as a list.
    return isinstance(value, str) and value in names


def are_kinds(value):
    """Whether any value is a list or tuple of one or more unlike names."""
    if not isinstance(value, (list, tuple)) or len(value) == 0:
        return False
    return all([is_name(kind) for kind in value]) and len(set(value)) == len(value)


def are_handles(value, kinds):
    """Whether any value is a list or tuple of unlike ones of the kinds."""
    if not isinstance(value, (list, tuple)):
        return False
    return all([is_among(kind, kinds) for kind in value]) and len(set(value)) == len(value)


def is_rule(value, kinds):
    """Whether any value is a rule in which all kinds are of these."""
    if not isinstance(value, tuple) or len(value) != 4:
        return False
    name, kind, outcome, change = value
    if not is_name(name) or not is_among(kind, kinds) or not is_integer(change):
        return False
    return isinstance(outcome, tuple) and all([is_among(part, kinds) for part in outcome])


def checked_rules(value, kinds):
    """The rules, each under its name, in the order in which any value has them."""
    if not isinstance(value, (list, tuple)):
        raise BadRules(value)
    for number, rule in enumerate(value):
        if not is_rule(rule, kinds):
            raise BadRule(number)
    table = {}
    for rule in value:
        name = rule[0]
        if name in table:
            raise NamedTwice(name)
        table[name] = rule
    return table


class Book:
    """Kinds, handles among them, rules, a start and a count; it never changes."""

    def __init__(self, kinds, handles, rules, start, count):
        if not are_kinds(kinds):
            raise BadKinds(kinds)
        # Dicts keep the order of their keys, but do not compare it.
        self._kinds = {kind: True for kind in kinds}
        if not are_handles(handles, self._kinds):
            raise BadHandles(handles)
        self._handles = {kind: True for kind in handles}
        self._rules = checked_rules(rules, self._kinds)
        if not is_among(start, self._kinds):
            raise BadStart(start)
        self._start = start
        if not is_integer(count):
            raise BadCount(count)
        self._amount = count

    @property
    def kinds(self):
        """The kinds, a new list in the order in which they were handed in."""
        return list(self._kinds)

    @property
    def handles(self):
        """The handles, a new list in the order in which they were handed in."""
        return list(self._handles)

    @property
    def rules(self):
        """The rules, a new list in the order in which they were handed in."""
        return list(self._rules.values())

    @property
    def start(self):
        """The kind that a run starts with."""
        return self._start

    @property
    def amount(self):
        """The count that a run starts with."""
        return self._amount

    def rule_named(self, name):
        """The rule with this name; raises NoRule for any other value."""
        if not is_among(name, self._rules):
            raise NoRule(name)
        return self._rules[name]

    def __eq__(self, other):
        return (
            isinstance(other, Book)
            and self._kinds == other._kinds
            and self._handles == other._handles
            and self._rules == other._rules
            and self._start == other._start
            and self._amount == other._amount
        )


def demand_kind(book, value):
    """Raises NoKind for any value that is no kind of the book."""
    if not is_among(value, book.kinds):
        raise NoKind(value)
