"""Worlds of things that hold handles of one another, event by event."""

from farhandles.books import demand_kind, is_among, is_name
from farhandles.errors import BadName, NamedTwice, NoHolder, Nothing, NoThing, NotHeld
from farhandles.runs import changes_of, do_move, moves_of, put_one, take_one
from farhandles.ways import alive

OUTSIDE = ""


class Home:
    """What is known of a thing: its count, what is left of it by holders, and whether it was freed, and early."""

    def __init__(self, number, lots):
        self.number = number
        self.lots = lots
        self.gone = False
        self.hasty = False

    def twin(self):
        """A home of its own that knows the same."""
        other = Home(self.number, {holder: dict(many) for holder, many in self.lots.items()})
        other.gone = self.gone
        other.hasty = self.hasty
        return other

    def lot(self, holder):
        """How many of each kind the holder has."""
        return self.lots.get(holder, {})

    def take(self, holder, kind):
        """The holder has one less of the kind."""
        take_one(self.lots[holder], kind)

    def put(self, holder, kind):
        """The holder has one more of the kind."""
        put_one(self.lots.setdefault(holder, {}), kind)

    def holders(self, kinds):
        """The holders that have one of these kinds."""
        return [holder for holder, many in self.lots.items() if any([kind in kinds for kind in many])]


class World:
    """Things, each with a count, and what is left of them; it goes by a book, and each event can be taken back."""

    def __init__(self, book):
        self._book = book
        self._living = {kind: True for kind in alive(book)}
        self._moves = moves_of(book)
        self._changes = changes_of(book)
        self._homes = {}
        # The events, each with whether a thing was freed by it.
        self._events = []

    @property
    def book(self):
        """The book that the world goes by."""
        return self._book

    @property
    def things(self):
        """The ascending list of the things."""
        return sorted(self._homes)

    @property
    def history(self):
        """The list of the events."""
        return [event for event, _ in self._events]

    def make(self, thing):
        """A new thing, with one of the book's start held outside."""
        if not is_name(thing):
            raise BadName(thing)
        if thing in self._homes:
            raise NamedTwice(thing)
        self._homes[thing] = Home(self._book.amount, {OUTSIDE: {self._book.start: 1}})
        self._note(thing, ("make", thing))

    def step(self, thing, rule, holder):
        """A rule is done with what the holder has of the thing."""
        self._demand_thing(thing)
        _, kind, _, change = self._book.rule_named(rule)
        self._demand_holder(holder)
        self._demand_held(thing, kind, holder)
        home = self._homes[thing]
        do_move(self._moves, home.lot(holder), rule)
        home.number += change
        self._note(thing, ("step", thing, rule, holder))

    def hand(self, thing, kind, holder, other):
        """One of a kind that a holder has of the thing goes to another holder."""
        self._demand_thing(thing)
        demand_kind(self._book, kind)
        self._demand_holder(holder)
        self._demand_holder(other)
        self._demand_held(thing, kind, holder)
        home = self._homes[thing]
        home.take(holder, kind)
        home.put(other, kind)
        self._note(thing, ("pass", thing, kind, holder, other))

    def undo(self):
        """Takes the last event back and returns it."""
        if not self._events:
            raise Nothing()
        event, freeing = self._events.pop()
        word, thing, *told = event
        home = self._homes[thing]
        if freeing:
            home.gone = False
            home.hasty = False
        if word == "make":
            del self._homes[thing]
        elif word == "step":
            self._undo_step(home, told[0], told[1])
        else:
            home.take(told[2], told[0])
            home.put(told[1], told[0])
        return event

    def fork(self):
        """A new world that stands as this one does; from now on each goes on by itself."""
        other = World(self._book)
        other._homes = {thing: home.twin() for thing, home in self._homes.items()}
        other._events = list(self._events)
        return other

    def count_of(self, thing):
        """The count of the thing."""
        self._demand_thing(thing)
        return self._homes[thing].number

    def held(self, thing, holder):
        """The lot of what the holder has of the thing."""
        self._demand_thing(thing)
        self._demand_holder(holder)
        return tuple(sorted(self._homes[thing].lot(holder).items()))

    def freed(self):
        """The ascending list of the things that were freed."""
        return [thing for thing in self.things if self._homes[thing].gone]

    def freed_early(self):
        """The ascending list of the things that were freed while something alive of them was left."""
        return [thing for thing in self.things if self._homes[thing].hasty]

    def reached(self):
        """The ascending list of the things that are reached."""
        found = {OUTSIDE: True}
        before = 0
        while len(found) > before:
            before = len(found)
            for thing, home in self._homes.items():
                if not home.gone and any([holder in found for holder in home.holders(self._living)]):
                    found[thing] = True
        return [thing for thing in self.things if thing in found]

    def idle(self):
        """The ascending list of the things that are neither freed nor reached."""
        reached = self.reached()
        return [thing for thing in self.things if not self._homes[thing].gone and thing not in reached]

    def ring(self):
        """The ascending list of the greatest set of idle things that hold something alive of one another."""
        left = self.idle()
        before = len(left) + 1
        while len(left) < before:
            before = len(left)
            left = [
                thing for thing in left
                if any([holder in left for holder in self._homes[thing].holders(self._living)])
            ]
        return left

    def _note(self, thing, event):
        """Keeps the event, and frees the thing if its count is nought or less for the first time."""
        home = self._homes[thing]
        freeing = not home.gone and home.number <= 0
        if freeing:
            home.gone = True
            home.hasty = len(home.holders(self._living)) > 0
        self._events.append((event, freeing))

    def _undo_step(self, home, rule, holder):
        """Takes back what a rule did with what the holder has."""
        kind, outcome = self._moves[rule]
        for part in outcome:
            home.take(holder, part)
        home.put(holder, kind)
        home.number -= self._changes[rule]

    def _demand_thing(self, value):
        """Raises NoThing for any value that is no thing of the world."""
        if not is_among(value, self._homes):
            raise NoThing(value)

    def _demand_holder(self, value):
        """Raises NoHolder for any value that is neither a thing of the world nor the outside."""
        if not is_among(value, self._homes) and value != OUTSIDE:
            raise NoHolder(value)

    def _demand_held(self, thing, kind, holder):
        """Raises NotHeld with the kind if the holder has none of it."""
        if kind not in self._homes[thing].lot(holder):
            raise NotHeld(kind)


def replayed(book, events):
    """The world behind the events, done one after the other."""
    world = World(book)
    for word, *told in events:
        if word == "make":
            world.make(*told)
        elif word == "step":
            world.step(*told)
        else:
            world.hand(*told)
    return world
