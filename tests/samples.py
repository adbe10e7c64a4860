"""What several tests use: values of all sorts, books, and runs done step by step."""

import random
from collections import Counter

from farhandles.books import Book


def nested(levels, sort):
    """A list, tuple or dict of so many levels with "h" inmost."""
    value = "h"
    for _ in range(levels):
        value = {"h": value} if sort is dict else sort([value])
    return value


def counting():
    """The book of DOC.md: a letter tells of each copy."""
    rules = [("copy", "h", ("h", "h", "l"), 0), ("drop", "h", (), -1), ("come", "l", (), 1)]
    return Book(["h", "l"], ["h"], rules, "h", 1)


def book_of(rules, handles, start="h", count=1):
    """A book of rules told as "name kind outcome change", one letter a kind."""
    table = []
    for text in rules:
        name, kind, *outcome, change = text.split()
        table.append((name, kind, tuple("".join(outcome)), int(change)))
    kinds = sorted({kind for rule in table for kind in (rule[1], *rule[2])} | {start, *handles})
    return Book(kinds, list(handles), table, start, count)


def shared(count=2):
    """The book of DOC.md that is right with the count 2."""
    return book_of(["copy h gg 0", "drop h ll 0", "lose g l 0", "come l -1"], "hg", count=count)


VALUES = [
    None, True, False, 0, 1, -1, 7, 10 ** 59, -10 ** 59, 10 ** 400,
    "", " ", "-", "0", "1", "zz", "H", "Zz", "h ", " h", "h\n", "\n", "\t", "h h", "h1", "h_", "h-l", "zzzzzzzzz",
    "h" * 500, "None", "`", "{", "~",
    (), [], {}, ("h",), ["h"], {"h": "h"}, {"h": True}, [[]], ((),), [None], (True,), {0: 1},
    ("h", "l"), ["h", ["l"]], ("copy", "h", (), 0), [("copy", "h", (), 0)], {(): []}, {("h", 1): [2]},
    nested(20, list), nested(20, tuple), nested(20, dict), nested(300, list), nested(300, tuple),
    counting(),
]


def is_plain_name(value):
    """Whether a value is a name, told otherwise than the program tells it."""
    return isinstance(value, str) and len(value) in range(1, 9) and all(97 <= ord(sign) <= 122 for sign in value)


def lot_behind(book, kind, walk):
    """The lot behind a walk from a kind, a Counter; a ValueError if it can't be done."""
    rules = {name: (source, outcome) for name, source, outcome, change in book.rules}
    lot = Counter([kind])
    for name in walk:
        source, outcome = rules[name]
        if not lot[source]:
            raise ValueError(f"{name} can't be done")
        lot[source] -= 1
        lot.update(outcome)
    return +lot


def turned(book, chance):
    """An equal book with its kinds, handles and rules in another order."""
    kinds, handles, rules = book.kinds, book.handles, book.rules
    for parts in (kinds, handles, rules):
        chance.shuffle(parts)
    return Book(tuple(kinds), handles, tuple(rules), book.start, book.amount)


def some_books(many, kinds, rules, parts):
    """Books by chance, always the same ones, with at most so many kinds, rules and parts of an outcome."""
    chance = random.Random(f"{many} {kinds} {rules} {parts}")
    books = []
    for _ in range(many):
        names = chance.sample("abcdefghijkl", chance.randint(1, kinds))
        handles = [name for name in names if chance.random() < 0.3]
        table = []
        for name in chance.sample(["do", "redo", "drop", "copy", "come", "ask", "a", "b", "c", "d"], rules):
            if chance.random() < 0.85:
                outcome = tuple(chance.choice(names) for _ in range(chance.randint(0, parts)))
                table.append((name, chance.choice(names), outcome, chance.randint(-3, 3)))
        books.append(Book(names, handles, table, chance.choice(names), chance.randint(-3, 3)))
    return books


LABELS = ["do", "redo", "drop", "copy", "come", "ask", "a", "b", "c", "d", "e", "f"]


def drawn_book(chance, most):
    """A book by chance with at most so many kinds: any one, one that may end, or one that is right or nearly so."""
    names = chance.sample("abcdefghij", chance.randint(1, most))
    style = chance.choice(["free", "ends", "near", "near"])
    labels = chance.sample(LABELS, len(LABELS))
    moves = []
    if style != "free":
        for at, kind in enumerate(names):
            outcome = tuple(chance.choice(names[:at]) for _ in range(chance.randint(0, 2))) if at else ()
            moves.append((labels.pop(), kind, outcome))
    for _ in range(min(len(labels), chance.randint(0, 6))):
        outcome = tuple(chance.choice(names) for _ in range(chance.randint(0, chance.choice([1, 2, 4]))))
        moves.append((labels.pop(), chance.choice(names), outcome))
    chance.shuffle(moves)
    handles = [kind for kind in names if chance.random() < 0.5]
    start = chance.choice(names)
    if style != "near":
        rules = [(*move, chance.randint(-3, 3)) for move in moves]
        return Book(names, handles, rules, start, chance.randint(-2, 6))
    weight = {kind: chance.randint(0, 3) for kind in names}
    slip = chance.choice([0, 0, 0.15])
    rules = []
    for name, kind, outcome in moves:
        change = sum(weight[part] for part in outcome) - weight[kind]
        rules.append((name, kind, outcome, change + chance.choice([-1, 1]) * (chance.random() < slip)))
    return Book(names, handles, rules, start, weight[start] + chance.choice([-1, 1]) * (chance.random() < slip))


def drawn_books(many, most, seed):
    """Books by chance, always the same ones for the same seed."""
    chance = random.Random(f"{many} {most} {seed}")
    return [drawn_book(chance, most) for _ in range(many)]


def exchanged(value, chance, others):
    """A like value with one thing in it exchanged, left out, put in, turned round or made greater or less."""
    other = chance.choice([*others, *others, None, True, False, 0, 1, -1, "zz", [], {}, ()])
    if isinstance(value, dict) and chance.random() < 0.95:
        return exchanged_dict(value, chance, others, other)
    if isinstance(value, (list, tuple)) and chance.random() < 0.95:
        return exchanged_row(value, chance, others, other)
    if isinstance(value, int) and chance.random() < 0.8:
        return value + chance.choice([-1, 1, -1, 1, -7, 7]) if chance.random() < 0.9 else bool(value)
    return other


def exchanged_dict(value, chance, others, other):
    """As exchanged, for a dict."""
    key = chance.choice(list(value)) if value else None
    told = {each: worth for each, worth in value.items() if each != key}
    way = chance.random()
    if way < 0.6 and value:
        return {**told, key: exchanged(value[key], chance, others)}
    if way < 0.75:
        return told
    if isinstance(other, (list, dict)):
        return list(value.items())
    return {**told, other: value[key] if value else 0} if way < 0.87 else {**value, other: 0}


def exchanged_row(value, chance, others, other):
    """As exchanged, for a list or tuple."""
    told = list(value)
    at = chance.randrange(len(told)) if told else 0
    way = chance.random()
    if way < 0.55 and told:
        told[at] = exchanged(told[at], chance, others)
    elif way < 0.7:
        del told[at:at + 1]
    elif way < 0.85:
        told.insert(at, other if way < 0.78 or not told else told[at])
    elif way < 0.93:
        told.reverse()
    else:
        return tuple(told) if isinstance(value, list) else told
    return type(value)(told)


def ladder(parts, change, kinds="abcdefghij", count=1):
    """Each kind turns into so many of the next one by "aa" and the like, and the last one, the handle, drops."""
    rules = [(kind * 2, kind, (after,) * parts, 0) for kind, after in zip(kinds, kinds[1:])]
    return Book(list(kinds), [kinds[-1]], [*rules, ("drop", kinds[-1], (), change)], kinds[0], count)
