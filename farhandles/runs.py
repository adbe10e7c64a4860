"""Walks and runs: rules done one after the other, beginning with just one of a kind."""

from farhandles.books import demand_kind, is_among
from farhandles.errors import NotDone
from farhandles.ways import alive, ending


def stands(book, kind, walk):
    """The tuples (sum of the changes so far, lot) of a walk from the kind."""
    demand_kind(book, kind)
    return stands_from(book, kind, walk, 0)


def run_stands(book, run):
    """The tuples (count, lot) of a run."""
    return stands_from(book, book.start, run, book.amount)


def is_walk(book, kind, value):
    """Whether any value is a walk from the kind."""
    demand_kind(book, kind)
    return lot_behind(book, kind, value) is not None


def is_run(book, value):
    """Whether any value is a run."""
    return lot_behind(book, book.start, value) is not None


def mark(book, run):
    """What the run is: "stuck", "early", "kept", the first of these, or "going"."""
    changes = changes_of(book)
    many = done_walk(book, book.start, run)
    count = book.amount + sum([changes[name] for name in run])
    nothing_ahead = ending(book)
    living = alive(book)
    if any([kind not in nothing_ahead for kind in many]):
        return "stuck"
    if count <= 0 and any([kind in living for kind in many]):
        return "early"
    if count >= 1 and not many:
        return "kept"
    return "going"


def changes_of(book):
    """The changes of the rules under their names."""
    return {name: change for name, _, _, change in book.rules}


def moves_of(book):
    """The tuples (kind, outcome) of the rules under their names."""
    return {name: (kind, outcome) for name, kind, outcome, _ in book.rules}


def can_be_done(moves, many, name):
    """Whether any value is the name of a rule of which the kind is there."""
    return is_among(name, moves) and moves[name][0] in many


def do_rule(moves, many, name):
    """Changes the numbers of the kinds that are there as the rule tells."""
    kind, outcome = moves[name]
    many[kind] -= 1
    if many[kind] == 0:
        del many[kind]
    for part in outcome:
        many[part] = many.get(part, 0) + 1


def stands_from(book, kind, walk, total):
    """The tuples (total, lot) of a walk from the kind, the changes added to the total."""
    if not isinstance(walk, list):
        raise NotDone(0)
    moves = moves_of(book)
    changes = changes_of(book)
    many = {kind: 1}
    told = [(total, ((kind, 1),))]
    pairs = {}
    for number, name in enumerate(walk):
        if not can_be_done(moves, many, name):
            raise NotDone(number)
        do_rule(moves, many, name)
        total += changes[name]
        # The lots of a long walk share their pairs, or they would fill the memory.
        told.append((total, tuple([pairs.setdefault(pair, pair) for pair in sorted(many.items())])))
    return told


def done_walk(book, kind, walk):
    """How many of each kind are there behind a walk from the kind; raises NotDone."""
    if not isinstance(walk, list):
        raise NotDone(0)
    moves = moves_of(book)
    many = {kind: 1}
    for number, name in enumerate(walk):
        if not can_be_done(moves, many, name):
            raise NotDone(number)
        do_rule(moves, many, name)
    return many


def lot_behind(book, kind, value):
    """How many of each kind are there behind any value as a walk from the kind, None if it is none."""
    try:
        return done_walk(book, kind, value)
    except NotDone:
        return None
