"""What DOC.md says of walks, tables and papers, told once more and otherwise than the program tells it."""

import itertools
from collections import Counter

from tests.samples import lot_behind


def changes_of(book):
    return {rule[0]: rule[3] for rule in book.rules}


def rules_of(book, kind):
    return [(name, Counter(outcome)) for name, source, outcome, _ in book.rules if source == kind]


def grown(kinds, step):
    """The least set with the kinds to which the step adds no kind any more."""
    found = set(kinds)
    while step(found) - found:
        found |= step(found)
    return found


def living(book):
    return grown(book.handles, lambda found: {kind for _, kind, outcome, _ in book.rules if found & set(outcome)})


def ended(book):
    return grown([], lambda found: {kind for _, kind, outcome, _ in book.rules if found >= set(outcome)})


def met(book, kind):
    """The kinds that some walk from the kind brings about."""
    def step(found):
        return {part for _, source, outcome, _ in book.rules if source in found for part in outcome}
    return grown([kind], step)


def lot_of(book, kind, walk):
    """The lot behind any value as a walk from a kind, None if it is none."""
    if type(walk) is not list:
        return None
    try:
        return lot_behind(book, kind, walk)
    except (KeyError, TypeError, ValueError):
        return None


def cost(prices, walk):
    return sum(many * prices[name] for name, many in Counter(walk).items())


def is_kind(book, value):
    return isinstance(value, str) and value in book.kinds


def is_table(book, value):
    return type(value) is dict and all(is_kind(book, key) and type(worth) is int for key, worth in value.items())


def together(table, lot):
    return sum(many * table[part] for part, many in lot.items())


def floor_holds(book, prices, value):
    if not is_table(book, value):
        return False
    for kind, number in value.items():
        if number > 0 or not all(set(value) >= set(lot) for _, lot in rules_of(book, kind)):
            return False
        if any(number - prices[name] > together(value, lot) for name, lot in rules_of(book, kind)):
            return False
    return True


def roof_holds(book, prices, value):
    if not is_table(book, value):
        return False
    for kind, number in value.items():
        for name, lot in rules_of(book, kind):
            if ended(book) >= set(lot) and not (
                    set(value) >= set(lot) and number >= prices[name] + together(value, lot)):
                return False
    return True


def sink_holds(book, prices, kind, value):
    if type(value) is not tuple or len(value) != 3 or not is_kind(book, value[1]):
        return False
    there, back = lot_of(book, kind, value[0]), lot_of(book, value[1], value[2])
    return bool(there and back and there[value[1]] and back[value[1]] and cost(prices, value[2]) < 0)


def lift_holds(book, prices, kind, value):
    if type(value) is not tuple or len(value) != 3 or not is_kind(book, value[1]):
        return False
    there, back = lot_of(book, kind, value[0]), lot_of(book, value[1], value[2])
    if not there or not there[value[1]] or not ended(book) >= set(there):
        return False
    return back == Counter([value[1]]) and cost(prices, value[2]) > 0


def mark_of(book, run):
    """The mark of a run."""
    lot = lot_behind(book, book.start, run)
    count = book.amount + cost(changes_of(book), run)
    if set(lot) - ended(book):
        return "stuck"
    if set(lot) & living(book) and count < 1:
        return "early"
    return "kept" if count > 0 and not lot else "going"


def ends_hold(book, value):
    if not is_table(book, value) or book.start not in value or min(value.values()) < 1:
        return False
    for kind, number in value.items():
        lots = [lot for _, lot in rules_of(book, kind)]
        if any(set(lot) - set(value) for lot in lots):
            return False
        if not any(all(value[part] < number for part in lot) for lot in lots):
            return False
    return True


def alive_holds(book, value, beside):
    changes, alive = changes_of(book), living(book)
    if not is_table(book, value) or set(value) - alive or any(number > 0 for number in value.values()):
        return False
    if book.start in alive and value.get(book.start, -book.amount) + book.amount <= 0:
        return False
    for kind, number in value.items():
        for name, lot in rules_of(book, kind):
            for part in set(lot) & alive:
                others = lot - Counter([part])
                if part not in value or set(others) - set(beside):
                    return False
                if number - value[part] > changes[name] + together(beside, others):
                    return False
    return True


def paper_holds(book, value):
    if type(value) is not dict or sorted(value, key=str) != ["alive", "beside", "ends", "roof"]:
        return False
    changes = changes_of(book)
    if not floor_holds(book, changes, value["beside"]) or not roof_holds(book, changes, value["roof"]):
        return False
    if value["roof"].get(book.start, 1 - book.amount) + book.amount > 0:
        return False
    return ends_hold(book, value["ends"]) and alive_holds(book, value["alive"], value["beside"])


def worths_hold(book, value):
    if not is_table(book, value) or set(value) != ended(book):
        return False
    return all(
        value[kind] == together(value, Counter(outcome)) - change
        for _, kind, outcome, change in book.rules if ended(book) >= set(outcome))


def two_walks_hold(book, value):
    if type(value) is not tuple or len(value) != 3 or not is_kind(book, value[0]):
        return False
    kind, one, other = value
    if lot_of(book, kind, one) != Counter() or lot_of(book, kind, other) != Counter():
        return False
    return cost(changes_of(book), one) != cost(changes_of(book), other)


def settled(nodes, rules, prices, resting):
    """The least sums of nodes with rules (name, lot), None if they still fall after very many rounds."""
    rules = {node: list(rules(node)) for node in nodes}
    table = {}
    for _ in range(90):
        before, table = table, {}
        for node in nodes:
            sums = [0] * resting + [
                prices[name] + together(before, lot) for name, lot in rules[node] if set(before) >= set(lot)]
            if sums:
                table[node] = min(sums)
        if table == before:
            return table
    return None


def least_of(book, prices, kind):
    """The least sum of a kind, None if there is none."""
    table = settled(met(book, kind), lambda each: rules_of(book, each), prices, True)
    return table and table[kind]


def most_at_end(book, prices, kind):
    """The end sum of a kind that comes to nothing, None if it has no bound."""
    def rules(each):
        return [(name, lot) for name, lot in rules_of(book, each) if ended(book) >= set(lot)]

    kinds = grown([kind], lambda found: {part for each in found for _, lot in rules(each) for part in lot})
    table = settled(kinds, rules, {name: -price for name, price in prices.items()}, False)
    return table and -table[kind]


def least_with_alive(book):
    """The least sum of changes of runs with something alive left, None if there is none; the start is alive."""
    alive = living(book)

    def rules(node):
        kind, kept = node
        for name, lot in rules_of(book, kind):
            for part in set(lot) & alive if kept else [None]:
                others = lot - Counter([part])
                marked = Counter({(other, False): many for other, many in others.items()})
                yield name, marked + Counter([(part, True)] if kept else [])

    start = book.start, True
    nodes = grown([start], lambda found: {part for node in found for _, lot in rules(node) for part in lot})
    table = settled(nodes, rules, changes_of(book), True)
    return table and table[start]


def verdict(book):
    """"right", or what some run is: "stuck", or else "early", or else "kept"."""
    if met(book, book.start) - ended(book):
        return "stuck"
    if book.start in living(book):
        least = least_with_alive(book)
        if least is None or least + book.amount <= 0:
            return "early"
    most = most_at_end(book, changes_of(book), book.start)
    return "kept" if most is None or most + book.amount >= 1 else "right"


def weights_hold(book, untold, value):
    if not is_table(book, value) or set(value) != set(book.kinds) or min(value.values()) < 0:
        return False
    if any(value[kind] == 0 for kind in living(book)):
        return False
    return all(
        value[kind] == together(value, Counter(outcome))
        for name, kind, outcome, _ in book.rules if name in untold)


def bars_hold(book, untold, value):
    if type(value) is not dict or set(value) != set(untold) or any(type(worth) is not int for worth in value.values()):
        return False
    total = Counter()
    for name, kind, outcome, _ in book.rules:
        if name in untold:
            total[kind] += value[name]
            for part in outcome:
                total[part] -= value[name]
    return min(total[kind] for kind in book.kinds) >= 0 and any(total[kind] > 0 for kind in living(book))


def shares_within(places, left):
    """All tuples of shares that together are at most what is left."""
    return [shares for shares in itertools.product(range(left + 1), repeat=places) if sum(shares) <= left]


def is_store_table(book, most, value):
    if type(value) is not dict or any(type(worth) is not int for worth in value.values()):
        return False
    return all(
        type(key) is tuple and len(key) == 2 and is_kind(book, key[0]) and type(key[1]) is int and key[1] in range(most + 1)
        for key in value)


def beside_demands(book, letters, kind, left):
    """What the number of a kind with left is to be at most: a change, and keys of the numbers beside."""
    for _, source, outcome, change in book.rules:
        if source == kind:
            for shares in shares_within(len(outcome), left):
                yield change, list(zip(outcome, shares))
    if kind in letters["twice"]:
        for one, other in shares_within(2, left - 1):
            yield 0, [(kind, one), (kind, other)]


def alive_demands(book, letters, kind, left):
    """The same in "alive": a change, the key that stays alive, the keys beside it."""
    alive = living(book)
    for _, source, outcome, change in book.rules:
        if source == kind:
            for shares in shares_within(len(outcome), left):
                keys = list(zip(outcome, shares))
                for at, key in enumerate(keys):
                    if key[0] in alive:
                        yield change, key, keys[:at] + keys[at + 1:]
    if kind in letters["twice"]:
        for one, other in shares_within(2, left - 1):
            yield 0, (kind, one), [(kind, other)]


def never_early_holds(book, letters, most, value):
    if type(value) is not dict or sorted(value, key=str) != ["alive", "beside"]:
        return False
    alive, beside = value["alive"], value["beside"]
    for table in (alive, beside):
        if not is_store_table(book, most, table) or any(number > 0 for number in table.values()):
            return False
    if {kind for kind, _ in alive} - living(book):
        return False
    if book.start in living(book) and alive.get((book.start, most), -book.amount) + book.amount < 1:
        return False
    for (kind, left), number in beside.items():
        for change, keys in beside_demands(book, letters, kind, left):
            if set(keys) - set(beside) or number > change + sum(beside[key] for key in keys):
                return False
    for (kind, left), number in alive.items():
        for change, key, others in alive_demands(book, letters, kind, left):
            if key not in alive or set(others) - set(beside):
                return False
            if number > change + alive[key] + sum(beside[other] for other in others):
                return False
    return True


def never_kept_holds(book, letters, most, value):
    if not is_store_table(book, most, value):
        return False
    if value.get((book.start, most), 1 - book.amount) + book.amount > 0:
        return False
    for (kind, left), number in value.items():
        if kind in letters["lost"] and left > 0 and number < 0:
            return False
        for _, source, outcome, change in book.rules:
            if source == kind and ended(book) >= set(outcome):
                for shares in shares_within(len(outcome), left):
                    keys = list(zip(outcome, shares))
                    if set(keys) - set(value) or number < change + sum(value[key] for key in keys):
                        return False
    return True


def faulty_lots(book, run, letters, most):
    """The counts and lots of a faulty run, and the number of the first thing that can't be done, None if all can."""
    if type(run) is not list:
        return [], 0
    rules = {name: (source, outcome, change) for name, source, outcome, change in book.rules}
    lot, count, told = Counter([book.start]), book.amount, []
    told.append((count, lot))
    for number, what in enumerate(run):
        if isinstance(what, str) and what in rules and lot[rules[what][0]]:
            source, outcome, change = rules[what]
            lot = lot - Counter([source]) + Counter(outcome)
            count += change
        elif what in [(word, kind) for word in letters for kind in letters[word] if lot[kind]] and most > 0:
            most -= 1
            lot = lot + Counter([what[1]]) if what[0] == "twice" else lot - Counter([what[1]])
        else:
            return told, number
        told.append((count, lot))
    return told, None


def faulty_marks(book, letters, most, longest, states):
    """Which of "early", "kept" some faulty run of at most so many moves is, or a shorter one if there are too many."""
    alive = living(book)
    seen = newest = {(((book.start, 1),), book.amount, 0)}
    for _ in range(longest):
        fresh = set()
        for lot, count, faults in newest:
            for kind, many in lot:
                moves = [(outcome, change, 0) for _, source, outcome, change in book.rules if source == kind]
                if faults < most:
                    moves += [((kind,) * 2, 0, 1)] * (kind in letters["twice"]) + [((), 0, 1)] * (kind in letters["lost"])
                for outcome, change, cost in moves:
                    after = Counter(dict(lot)) - Counter([kind]) + Counter(outcome)
                    fresh.add((tuple(sorted(after.items())), count + change, faults + cost))
        newest = fresh - seen
        seen = seen | newest
        if len(seen) > states:
            break
    early = any(count <= 0 and alive & {kind for kind, _ in lot} for lot, count, _ in seen)
    kept = any(count >= 1 and not lot for lot, count, _ in seen)
    return {word for word, told in (("early", early), ("kept", kept)) if told}
