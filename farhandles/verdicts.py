"""Whether a book is right: a paper that shows it for all runs, or a run that shows that it isn't."""

from farhandles.rings import can_come_to, walk_within
from farhandles.runs import changes_of
from farhandles.sums import end_trees, is_floor, is_kind_table, is_roof, roof
from farhandles.trees import Trees, sum_of
from farhandles.ways import about, alive, ending, shortest_about, way_to_nothing

PAPER_KEYS = ("ends", "alive", "beside", "roof")


def is_right(book):
    """Whether no run is early, kept or stuck."""
    if stuck_run(book) is not None:
        return False
    keeping = keeping_trees(book)
    if keeping is not None and can_come_to(keeping, most_if_early(book)):
        return False
    return not can_come_to(end_trees(book, changes_of(book), book.start), most_if_kept(book))


def paper(book):
    """A paper that the book is right, None if it isn't."""
    if not is_right(book):
        return None
    keeping = keeping_trees(book)
    least = {} if keeping is None else keeping.least_sums()
    return {
        "ends": {kind: way_to_nothing(book, kind) for kind in about(book)},
        "alive": {kind: number for (kind, is_kept), number in least.items() if is_kept},
        "beside": {kind: number for (kind, is_kept), number in least.items() if not is_kept},
        "roof": roof(book, changes_of(book), book.start),
    }


def is_paper(book, value):
    """Whether any value is a paper that the book is right."""
    if not isinstance(value, dict) or len(value) != len(PAPER_KEYS):
        return False
    if not all([key in value and is_kind_table(book, value[key]) for key in PAPER_KEYS]):
        return False
    changes = changes_of(book)
    return (
        shows_ends(book, value["ends"])
        and is_floor(book, changes, value["beside"])
        and shows_not_early(book, value["alive"], value["beside"])
        and is_roof(book, changes, value["roof"])
        and shows_not_kept(book, value["roof"])
    )


def bad_run(book):
    """A stuck run; if there is none an early one, if there is none either a kept one; None if all are good."""
    found = marked_run(book)
    return None if found is None else found[1]


def decide(book):
    """("right", paper), or what a bad run is and the run."""
    found = marked_run(book)
    return ("right", paper(book)) if found is None else found


def marked_run(book):
    """What a bad run is and the run, None if there is none."""
    run = stuck_run(book)
    if run is not None:
        return ("stuck", run)
    run = early_run_of(book)
    if run is not None:
        return ("early", run)
    run = kept_run_of(book)
    return None if run is None else ("kept", run)


def stuck_run(book):
    """A shortest stuck run, None if there is none."""
    nothing_ahead = ending(book)
    runs = [shortest_about(book, kind) for kind in about(book) if kind not in nothing_ahead]
    return min(runs, key=len, default=None)


def early_run_of(book):
    """An early run, None if there is none."""
    keeping = keeping_trees(book)
    run = None if keeping is None else walk_within(keeping, most_if_early(book))
    return None if run is None else until_early(book, run)


def until_early(book, run):
    """The first rules of a run that leaves something alive behind each of them, until its count is nought or less."""
    changes = changes_of(book)
    count = book.amount
    for number, name in enumerate(run):
        if count <= 0:
            return run[:number]
        # A fault is no rule and changes nothing.
        count += changes.get(name, 0)
    return run


def kept_run_of(book):
    """A kept run, None if there is none."""
    return walk_within(end_trees(book, changes_of(book), book.start), most_if_kept(book))


def keeping_trees(book):
    """The trees of all runs that leave something alive, None if the start isn't alive."""
    if book.start not in alive(book):
        return None
    return Trees(keeping_rules(book), (book.start, True), True)


def keeping_rules(book):
    """The rules for nodes (kind, whether something alive has to be left of it)."""
    living = alive(book)
    rules = []
    for name, kind, outcome, change in book.rules:
        rules.append((name, (kind, False), tuple([(part, False) for part in outcome]), change))
        for place in living_places(outcome, living):
            marked = tuple([(part, at == place) for at, part in enumerate(outcome)])
            rules.append((name, (kind, True), marked, change))
    return rules


def living_places(outcome, living):
    """The places of an outcome with kinds that are alive."""
    return [at for at, part in enumerate(outcome) if part in living]


def most_if_early(book):
    """The greatest sum of changes with which a run is early."""
    return -book.amount


def most_if_kept(book):
    """The greatest sum of changes with - ahead with which a run to the empty lot is kept."""
    return book.amount - 1


def shows_ends(book, ends):
    """Whether a dict from kinds to integers shows that all that comes about comes to nothing."""
    if book.start not in ends or any([number < 1 for number in ends.values()]):
        return False
    nearer = {}
    for _, kind, outcome, _ in book.rules:
        if kind in ends:
            if any([part not in ends for part in outcome]):
                return False
            if all([ends[part] < ends[kind] for part in outcome]):
                nearer[kind] = True
    return len(nearer) == len(ends)


def shows_not_early(book, numbers, beside):
    """Whether a dict from kinds to integers shows, with a floor for all beside, that no run is early."""
    living = alive(book)
    if any([kind not in living or number > 0 for kind, number in numbers.items()]):
        return False
    if book.start in living and (book.start not in numbers or numbers[book.start] + book.amount < 1):
        return False
    for _, kind, outcome, change in book.rules:
        if kind in numbers:
            for place in living_places(outcome, living):
                others = sum_of(beside, outcome[:place] + outcome[place + 1:])
                if outcome[place] not in numbers or others is None:
                    return False
                if numbers[kind] > change + numbers[outcome[place]] + others:
                    return False
    return True


def shows_not_kept(book, numbers):
    """Whether a roof shows that no run is kept."""
    return book.start in numbers and numbers[book.start] + book.amount <= 0
