"""Faulty runs, in which letters are doubled or lost: papers that none is bad, or a bad one."""

from farhandles.books import are_handles, is_among, is_integer
from farhandles.errors import BadLetters, BadTimes, NoEnd
from farhandles.rings import walk_within
from farhandles.runs import changes_of, moves_of, stands_by
from farhandles.stores import Stores, least_shared
from farhandles.sums import end_trees
from farhandles.trees import Trees
from farhandles.verdicts import early_run_of, keeping_rules, keeping_trees, kept_run_of
from farhandles.verdicts import most_if_early, most_if_kept, until_early
from farhandles.ways import about, alive, ending, shortest_about, way_to_nothing
from farhandles.worths import shortest_worths

TWICE = "twice"
LOST = "lost"


def faulty_stands(book, run, letters, most):
    """The tuples (count, lot) of a faulty run."""
    demand_faults(book, letters, most)
    moves = moves_of(book)
    changes = changes_of(book)
    for kind in letters[TWICE]:
        moves[(TWICE, kind)] = (kind, (kind, kind))
        changes[(TWICE, kind)] = 0
    for kind in letters[LOST]:
        moves[(LOST, kind)] = (kind, ())
        changes[(LOST, kind)] = 0
    return stands_by(moves, changes, book.start, only_so_many(run, most), book.amount)


def never_early(book, letters, most):
    """A paper that no faulty run with at most so many doublings is early, None if there is none."""
    demand_ends(book, letters, most)
    if book.start not in alive(book):
        return {"alive": {}, "beside": {}}
    stores = keeping_stores(book, letters, most)
    if stores is None or stores.sums((book.start, True))[most] <= most_if_early(book):
        return None
    told = {"alive": {}, "beside": {}}
    for kind, kept in stores.rows:
        for left, total in enumerate(stores.sums((kind, kept))):
            told["alive" if kept else "beside"][(kind, left)] = total
    return told


def early_run(book, letters, most):
    """An early faulty run with only doublings, None if there is none."""
    demand_ends(book, letters, most)
    run = early_run_of(book)
    if run is not None or book.start not in alive(book):
        return run
    # Without faults nothing sinks, as no run is early: so what sinks needs a doubling.
    runs = sinking_runs(book, letters, most)
    if runs:
        return until_early(book, min(runs, key=len))
    run = keeping_stores(book, letters, most).walk_within((book.start, True), most_if_early(book))
    return None if run is None else until_early(book, run)


def never_kept(book, letters, most):
    """A paper that no faulty run with at most so many losses is kept, None if there is none."""
    demand_ends(book, letters, most)
    stores = ending_stores(book, letters, most)
    if stores is None or stores.sums(book.start)[most] <= most_if_kept(book):
        return None
    return {(kind, left): -total for kind in stores.rows for left, total in enumerate(stores.sums(kind))}


def kept_run(book, letters, most):
    """A kept faulty run with only losses, None if there is none."""
    demand_ends(book, letters, most)
    run = kept_run_of(book)
    if run is not None:
        return run
    return ending_stores(book, letters, most).walk_within(book.start, most_if_kept(book))


def is_never_early(book, letters, most, value):
    """Whether any value is a paper that no faulty run with at most so many doublings is early."""
    demand_ends(book, letters, most)
    if not isinstance(value, dict) or len(value) != 2 or "alive" not in value or "beside" not in value:
        return False
    if not all([is_store_table(book, most, table) for table in value.values()]):
        return False
    living = alive(book)
    if any([kind not in living for kind, _ in value["alive"]]):
        return False
    if any([number > 0 for table in value.values() for number in table.values()]):
        return False
    if book.start in living and not comes_to(value["alive"], (book.start, most), most_if_early(book) + 1):
        return False
    numbers = {}
    for key, kept in (("alive", True), ("beside", False)):
        for (kind, left), number in value[key].items():
            numbers[((kind, kept), left)] = number
    return are_low(numbers, keeping_rules(book), doublings(letters))


def is_never_kept(book, letters, most, value):
    """Whether any value is a paper that no faulty run with at most so many losses is kept."""
    demand_ends(book, letters, most)
    if not is_store_table(book, most, value):
        return False
    numbers = {key: -number for key, number in value.items()}
    if not comes_to(numbers, (book.start, most), most_if_kept(book) + 1):
        return False
    return are_low(numbers, falls_of(book), losses(letters))


def only_so_many(run, most):
    """Any value as a faulty run, with None, which can't be done, in the place of the tuples beyond so many."""
    if not isinstance(run, list):
        return run
    told = []
    faults = 0
    for what in run:
        faults += int(isinstance(what, tuple))
        told.append(None if isinstance(what, tuple) and faults > most else what)
    return told


def keeping_stores(book, letters, most):
    """The trees of all faulty runs that leave something alive, None if their sums have no bound."""
    keeping = keeping_trees(book)
    doubled = list(doubled_trees(book, letters, most).values())
    if not all([trees.bounded for trees in [keeping, *doubled]]):
        return None
    beside = [(kind, False) for trees in doubled for kind in trees.nodes]
    first = {node: (0, 0) for node in [*keeping.nodes, *beside]}
    return Stores(keeping_rules(book), doublings(letters), first, True, most)


def ending_stores(book, letters, most):
    """The trees of all faulty runs to the empty lot, None if their sums have no bound."""
    if not end_trees(book, changes_of(book), book.start).bounded:
        return None
    falls = shortest_worths(book)
    first = {kind: (falls[kind], way_to_nothing(book, kind)) for kind in about(book)}
    return Stores(falls_of(book), losses(letters), first, False, most)


def doubled_trees(book, letters, most):
    """For each kind that may be doubled while one of it stays alive, the trees of all walks from it."""
    living = alive(book)
    kinds = [kind for kind in about(book) if kind in living and kind in letters[TWICE] and most > 0]
    return {kind: Trees(book.rules, kind, True) for kind in kinds}


def sinking_runs(book, letters, most):
    """Early faulty runs, one for each kind that stays alive while what comes of its double sinks."""
    changes = changes_of(book)
    found = []
    for kind, trees in doubled_trees(book, letters, most).items():
        if not trees.bounded:
            run = shortest_about(book, kind)
            count = book.amount + sum([changes[name] for name in run])
            found.append([*run, (TWICE, kind), *walk_within(trees, -count)])
    return found


def falls_of(book):
    """The rules with what the count falls by as their prices."""
    return [(name, kind, outcome, -change) for name, kind, outcome, change in book.rules]


def doublings(letters):
    """The faults (name, node, outcome) by which there is one more, for the nodes of keeping rules."""
    return [
        ((TWICE, kind), (kind, kept), ((kind, kept), (kind, False)))
        for kind in letters[TWICE]
        for kept in (True, False)
    ]


def losses(letters):
    """The faults (name, node, outcome) by which there is one less."""
    return [((LOST, kind), kind, ()) for kind in letters[LOST]]


def is_store_table(book, most, value):
    """Whether any value is a dict from tuples (kind, left) to integers."""
    if not isinstance(value, dict) or not all([is_integer(number) for number in value.values()]):
        return False
    kinds = book.kinds
    if not all([isinstance(key, tuple) and len(key) == 2 for key in value]):
        return False
    return all([is_among(kind, kinds) and is_integer(left) and 0 <= left <= most for kind, left in value])


def comes_to(numbers, key, least):
    """Whether there is a number under the key, and at least this one."""
    return key in numbers and numbers[key] >= least


def are_low(numbers, rules, faults):
    """Whether no number under (node, left) is above what comes of it by any rule or fault, with all shares."""
    steps = [(node, outcome, price, 0) for _, node, outcome, price in rules]
    steps.extend([(node, outcome, 0, 1) for _, node, outcome in faults])
    for (node, left), number in numbers.items():
        for source, outcome, price, cost in steps:
            if source == node and left >= cost:
                below = least_below(numbers, outcome, left - cost)
                if below is None or number > price + below:
                    return False
    return True


def least_below(numbers, outcome, left):
    """The least sum of the numbers of the outcome with all shares of what is left, None if a number is lacking."""
    rows = [[numbers.get((part, share)) for share in range(left + 1)] for part in outcome]
    if any([None in row for row in rows]):
        return None
    return least_shared(rows, left + 1)[left]


def demand_ends(book, letters, most):
    """As demand_faults, and raises NoEnd with the least kind of the book that doesn't come to nothing."""
    demand_faults(book, letters, most)
    nothing_ahead = ending(book)
    for kind in sorted(book.kinds):
        if kind not in nothing_ahead:
            raise NoEnd(kind)


def demand_faults(book, letters, most):
    """Raises BadLetters, then BadTimes, for any value that is none."""
    if not are_letters(book, letters):
        raise BadLetters(letters)
    if not is_integer(most) or most < 0:
        raise BadTimes(most)


def are_letters(book, value):
    """Whether any value is a dict with just the lists of unlike kinds that may be doubled and be lost."""
    if not isinstance(value, dict) or len(value) != 2 or TWICE not in value or LOST not in value:
        return False
    kinds = book.kinds
    return all([isinstance(told, list) and are_handles(told, kinds) for told in value.values()])
