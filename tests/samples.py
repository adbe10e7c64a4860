"""What several tests use: values of all sorts, books, and runs done step by step."""

import random
from collections import Counter

from farhandles.books import Book


def nested(levels, sort):
    """A list, tuple or dict of so many levels with "h" inmost."""
    value = "h"
    for _ in range(levels):
        value = {"h": value} if sort is dict else sort([value])
    return value


def counting():
    """The book of DOC.md: a letter tells of each copy."""
    rules = [("copy", "h", ("h", "h", "l"), 0), ("drop", "h", (), -1), ("come", "l", (), 1)]
    return Book(["h", "l"], ["h"], rules, "h", 1)


VALUES = [
    None, True, False, 0, 1, -1, 7, 10 ** 59, -10 ** 59, 10 ** 400,
    "", " ", "-", "0", "1", "zz", "H", "Zz", "h ", " h", "h\n", "\n", "\t", "h h", "h1", "h_", "h-l", "zzzzzzzzz",
    "h" * 500, "None", "`", "{", "~",
    (), [], {}, ("h",), ["h"], {"h": "h"}, {"h": True}, [[]], ((),), [None], (True,), {0: 1},
    ("h", "l"), ["h", ["l"]], ("copy", "h", (), 0), [("copy", "h", (), 0)], {(): []}, {("h", 1): [2]},
    nested(20, list), nested(20, tuple), nested(20, dict), nested(300, list), nested(300, tuple),
    counting(),
]


def is_plain_name(value):
    """Whether a value is a name, told otherwise than the program tells it."""
    return isinstance(value, str) and len(value) in range(1, 9) and all(97 <= ord(sign) <= 122 for sign in value)


def lot_behind(book, kind, walk):
    """The lot behind a walk from a kind, a Counter; a ValueError if it can't be done."""
    rules = {name: (source, outcome) for name, source, outcome, change in book.rules}
    lot = Counter([kind])
    for name in walk:
        source, outcome = rules[name]
        if not lot[source]:
            raise ValueError(f"{name} can't be done")
        lot[source] -= 1
        lot.update(outcome)
    return +lot


def turned(book, chance):
    """An equal book with its kinds, handles and rules in another order."""
    kinds, handles, rules = book.kinds, book.handles, book.rules
    for parts in (kinds, handles, rules):
        chance.shuffle(parts)
    return Book(tuple(kinds), handles, tuple(rules), book.start, book.amount)


def some_books(many, kinds, rules, parts):
    """Books by chance, always the same ones, with at most so many kinds, rules and parts of an outcome."""
    chance = random.Random(f"{many} {kinds} {rules} {parts}")
    books = []
    for _ in range(many):
        names = chance.sample("abcdefghijkl", chance.randint(1, kinds))
        handles = [name for name in names if chance.random() < 0.3]
        table = []
        for name in chance.sample(["do", "redo", "drop", "copy", "come", "ask", "a", "b", "c", "d"], rules):
            if chance.random() < 0.85:
                outcome = tuple(chance.choice(names) for _ in range(chance.randint(0, parts)))
                table.append((name, chance.choice(names), outcome, chance.randint(-3, 3)))
        books.append(Book(names, handles, table, chance.choice(names), chance.randint(-3, 3)))
    return books
