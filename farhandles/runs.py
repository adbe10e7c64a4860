"""Walks and runs: rules done one after the other, beginning with just one of a kind."""

from farhandles.books import demand_kind
from farhandles.errors import NotDone
from farhandles.ways import alive, ending


def stands(book, kind, walk):
    """The tuples (sum of the changes so far, lot) of a walk from the kind."""
    demand_kind(book, kind)
    return stands_from(book, kind, walk, 0)


def run_stands(book, run):
    """The tuples (count, lot) of a run."""
    return stands_from(book, book.start, run, book.amount)


def is_walk(book, kind, value):
    """Whether any value is a walk from the kind."""
    demand_kind(book, kind)
    return lot_behind(book, kind, value) is not None


def is_run(book, value):
    """Whether any value is a run."""
    return lot_behind(book, book.start, value) is not None


def mark(book, run):
    """What the run is: "stuck", "early", "kept", the first of these, or "going"."""
    changes = changes_of(book)
    many = done_walk(book, book.start, run)
    count = book.amount + sum([changes[name] for name in run])
    nothing_ahead = ending(book)
    living = alive(book)
    if any([kind not in nothing_ahead for kind in many]):
        return "stuck"
    if count <= 0 and any([kind in living for kind in many]):
        return "early"
    if count >= 1 and not many:
        return "kept"
    return "going"


def changes_of(book):
    """The changes of the rules under their names."""
    return {name: change for name, _, _, change in book.rules}


def moves_of(book):
    """What can be done, under its name: the tuples (kind, outcome) of the rules."""
    return {name: (kind, outcome) for name, kind, outcome, _ in book.rules}


def can_be_done(moves, many, name):
    """Whether any value is the name of a move of which the kind is there."""
    return is_move(name, moves) and moves[name][0] in many


def is_move(value, moves):
    """Whether any value is the name of a move: a string, that of a rule, or a tuple of strings, that of a fault."""
    # A dict can't be asked for what has no hash, such as a list.
    parts = value if isinstance(value, tuple) else (value,)
    return all([isinstance(part, str) for part in parts]) and value in moves


def do_move(moves, many, name):
    """Changes the numbers of the kinds that are there as the move tells."""
    kind, outcome = moves[name]
    take_one(many, kind)
    for part in outcome:
        put_one(many, part)


def take_one(many, kind):
    """One less of the kind is there."""
    many[kind] -= 1
    if many[kind] == 0:
        del many[kind]


def put_one(many, kind):
    """One more of the kind is there."""
    many[kind] = many.get(kind, 0) + 1


def stands_from(book, kind, walk, total):
    """The tuples (total, lot) of a walk from the kind, the changes added to the total."""
    return stands_by(moves_of(book), changes_of(book), kind, walk, total)


def stands_by(moves, changes, kind, walk, total):
    """The tuples (total, lot) of any value as moves from the kind, the changes added to the total."""
    if not isinstance(walk, list):
        raise NotDone(0)
    many = {kind: 1}
    told = [(total, ((kind, 1),))]
    pairs = {}
    for number, name in enumerate(walk):
        if not can_be_done(moves, many, name):
            raise NotDone(number)
        do_move(moves, many, name)
        total += changes[name]
        # The lots of a long walk share their pairs, or they would fill the memory.
        told.append((total, tuple([pairs.setdefault(pair, pair) for pair in sorted(many.items())])))
    return told


def done_walk(book, kind, walk):
    """How many of each kind are there behind a walk from the kind; raises NotDone."""
    if not isinstance(walk, list):
        raise NotDone(0)
    moves = moves_of(book)
    many = {kind: 1}
    for number, name in enumerate(walk):
        if not can_be_done(moves, many, name):
            raise NotDone(number)
        do_move(moves, many, name)
    return many


def lot_behind(book, kind, value):
    """How many of each kind are there behind any value as a walk from the kind, None if it is none."""
    try:
        return done_walk(book, kind, value)
    except NotDone:
        return None
