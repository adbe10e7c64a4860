"""What DOC.md says of worlds, told once more from the events alone, and by trying all sets of things."""

import itertools
from collections import Counter

from tests.judges import living


class Judge:
    """A world behind some events: what each thing's holders have, told by (thing, holder, kind)."""

    def __init__(self, book, events):
        self.book = book
        self.alive = living(book)
        self.counts, self.there, self.freed, self.early = {}, Counter(), [], []
        rules = {name: rule for rule in book.rules for name in rule[:1]}
        for word, thing, *told in events:
            if word == "make":
                self.counts[thing] = book.amount
                self.there[thing, "", book.start] += 1
            elif word == "step":
                _, kind, outcome, change = rules[told[0]]
                self.there[thing, told[1], kind] -= 1
                self.there.update((thing, told[1], part) for part in outcome)
                self.counts[thing] += change
            else:
                kind, holder, other = told
                self.there[thing, holder, kind] -= 1
                self.there[thing, other, kind] += 1
            if self.counts[thing] <= 0 and thing not in self.freed:
                self.freed.append(thing)
                self.early += [thing] * any(self.is_held(thing, holder) for holder in self.holders())

    def holders(self):
        return ["", *self.counts]

    def is_held(self, thing, holder):
        """Whether the holder has something alive of the thing."""
        return any(self.there[thing, holder, kind] for kind in self.alive)

    def held(self, thing, holder):
        return tuple((kind, self.there[thing, holder, kind]) for kind in sorted(self.book.kinds) if self.there[thing, holder, kind])

    def reached(self):
        """Those to which a chain of things that aren't freed leads from the outside."""
        found, ways = [], [""]
        for holder in ways:
            fresh = [thing for thing in self.counts if thing not in self.freed + found and self.is_held(thing, holder)]
            found += fresh
            ways += fresh
        return sorted(found)

    def idle(self):
        return sorted(set(self.counts) - set(self.freed) - set(self.reached()))

    def ring(self):
        """All things together of all sets of idle things each of which is held by one of the set."""
        idle, found = self.idle(), set()
        for many in range(len(idle) + 1):
            for things in itertools.combinations(idle, many):
                if all(any(self.is_held(thing, holder) for holder in things) for thing in things):
                    found.update(things)
        return sorted(found)

    def told(self):
        """Everything that a world tells."""
        return {
            "things": sorted(self.counts), "counts": [self.counts[thing] for thing in sorted(self.counts)],
            "held": {(thing, holder): self.held(thing, holder) for thing in self.counts for holder in self.holders()},
            "freed": sorted(self.freed), "early": sorted(self.early), "reached": self.reached(), "idle": self.idle(), "ring": self.ring(),
        }


def told_by(world):
    """Everything that a world tells, but its history."""
    things = world.things
    return {
        "things": things, "counts": [world.count_of(thing) for thing in things],
        "held": {(thing, holder): world.held(thing, holder) for thing in things for holder in ["", *things]},
        "freed": world.freed(), "early": world.freed_early(), "reached": world.reached(), "idle": world.idle(), "ring": world.ring(),
    }


def possible_events(judge, names):
    """The events that can be done next."""
    events = [("make", name) for name in names if name not in judge.counts]
    for thing, holder, kind in [place for place, many in judge.there.items() if many]:
        events += [("step", thing, rule[0], holder) for rule in judge.book.rules if rule[1] == kind] * 2
        events += [("pass", thing, kind, holder, other) for other in judge.holders()]
    return events


def do(world, event):
    """Does an event in a world."""
    word, *told = event
    return {"make": world.make, "step": world.step, "pass": world.hand}[word](*told)
