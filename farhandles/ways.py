"""What kinds may become: handles, something of the lot, nothing; and the shortest ways there."""

from farhandles.books import demand_kind


def alive(book):
    """The ascending list of the kinds that are, or may become, a handle."""
    found = {kind: True for kind in book.handles}
    rules = book.rules
    growing = True
    while growing:
        before = len(found)
        for name, kind, outcome, change in rules:
            if any([part in found for part in outcome]):
                found[kind] = True
        growing = len(found) > before
    return sorted(found)


def about(book):
    """The ascending list of the kinds that come about."""
    return sorted(runs_about(book))


def ending(book):
    """The ascending list of the kinds that come to nothing."""
    return sorted(first_steps(book))


def way_to_nothing(book, kind):
    """The least number of rules from the kind to the empty lot, None if there is no walk."""
    demand_kind(book, kind)
    steps = first_steps(book)
    return steps[kind][0] if kind in steps else None


def shortest_about(book, kind):
    """A run with the fewest rules behind which the kind is in the lot, None if there is none."""
    demand_kind(book, kind)
    return runs_about(book).get(kind)


def shortest_end(book, kind):
    """A walk with the fewest rules from the kind to the empty lot, None if there is none."""
    demand_kind(book, kind)
    walks = {}
    # The steps come with ascending numbers: a kind's outcome has its walks before the kind.
    for each, (_, name, outcome) in first_steps(book).items():
        walk = [name]
        for part in outcome:
            walk.extend(walks[part])
        if each == kind:
            return walk
        walks[each] = walk
    return None


def runs_about(book):
    """For each kind that comes about, a run with the fewest rules behind which it is there."""
    # In the order of the names, so that the order of the book's rules makes no difference.
    rules = sorted(book.rules)
    runs = {book.start: []}
    newest = [book.start]
    while newest:
        reached = []
        for kind in newest:
            for name, part in parts_of(rules, kind):
                if part not in runs:
                    runs[part] = runs[kind] + [name]
                    reached.append(part)
        newest = reached
    return runs


def parts_of(rules, kind):
    """The tuples (name, part) of the rules of the kind and the kinds in their outcomes."""
    return [(name, part) for name, source, outcome, _ in rules if source == kind for part in outcome]


def first_steps(book):
    """For each kind that comes to nothing, (way to nothing, name, outcome).

    By the rule with this name and outcome a shortest walk begins. The ways to nothing ascend.
    """
    rules = book.rules
    steps = {}
    step = nearest_step(rules, steps)
    while step is not None:
        number, name, kind, outcome = step
        steps[kind] = (number, name, outcome)
        step = nearest_step(rules, steps)
    return steps


def nearest_step(rules, steps):
    """The least (number, name, kind, outcome) by which one more kind comes to nothing, or None."""
    # No later step makes the least number less, since each walk is longer than what it ends with.
    # Equal numbers go by the name, so that the order of the rules makes no difference.
    return min([
        (1 + sum([steps[part][0] for part in outcome]), name, kind, outcome)
        for name, kind, outcome, _ in rules
        if kind not in steps and all([part in steps for part in outcome])
    ], default=None)
