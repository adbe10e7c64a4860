"""Promises [3], [15], [16], [19] and stage 9 of the interface: worlds, event by event."""

import copy
import random
import unittest
from collections import Counter

from farhandles.books import Book
from farhandles.errors import BadName, HandleError, NamedTwice, NoHolder, NoKind, NoRule, Nothing, NoThing, NotHeld
from farhandles.runs import run_stands
from farhandles.worlds import World, replayed
from tests.samples import VALUES, drawn_books, is_plain_name
from tests.worldjudge import Judge, do, possible_events, told_by

BOOKS = [book for book in drawn_books(200, 4, "worlds") if book.rules]
OTHERS = [
    Book(["h", "l"], ["h"], [("copy", "h", ("h", "h"), 1), ("drop", "h", ("l",), 0), ("come", "l", (), -1)], "h", 1),
    Book(["h", "g", "x"], ["h", "g"], [("copy", "h", ("g", "g"), 0), ("lose", "g", ("x",), -1), ("drop", "h", (), -2), ("back", "x", ("h",), 3)], "h", 2),
    Book(["h", "l"], ["h"], [("copy", "h", ("h", "h", "l"), 0), ("drop", "h", (), -1), ("come", "l", (), 1)], "h", 1),
]


def plain():
    """A book of a handle that is copied, and of which a letter tells that it is dropped."""
    return OTHERS[0]


def world_of(book, *events):
    """A world behind events told as words; "-" is the outside."""
    world = World(book)
    for text in events:
        word, *told = text.split()
        do(world, (word, *[name.replace("-", "") for name in told]))
    return world


def drawn_events(book, chance, many, names="abcde"):
    events = []
    for _ in range(many):
        possible = possible_events(Judge(book, events), names)
        if not possible:
            break
        events.append(chance.choice(possible))
    return events


class Checks(unittest.TestCase):
    def check(self, world, book, events):
        """The world tells what the events have made of it."""
        self.assertEqual(told_by(world), Judge(book, events).told(), (book.rules, events))
        self.assertEqual((world.history, world.book), (list(events), book))


class Events(Checks):
    def test_example(self):
        world = World(Book(["h", "l"], ["h"], [("drop", "h", ("l",), 0), ("come", "l", (), -1)], "h", 1))
        told = [world.make("a"), world.make("b"), world.hand("b", "h", "", "a"), world.step("a", "drop", ""), world.reached(), world.idle(), world.ring()]
        self.assertEqual(told, [None, None, None, None, [], ["a", "b"], []])

    def test_empty_world(self):
        world = World(book=plain())
        self.check(world, plain(), [])
        self.assertEqual([world.things, world.history, world.freed(), world.freed_early(), world.reached(), world.idle(), world.ring()], [[]] * 7)
        self.assertEqual(World(plain()).book, plain())

    def test_each_event(self):
        world = World(plain())
        self.assertIs(world.make(thing="b"), None)
        self.assertEqual((world.things, world.count_of("b"), world.held("b", ""), world.held("b", "b")), (["b"], 1, (("h", 1),), ()))
        self.assertIs(world.step(thing="b", rule="copy", holder=""), None)
        self.assertEqual((world.count_of("b"), world.held("b", "")), (2, (("h", 2),)))
        self.assertIs(world.make("a"), None)
        self.assertIs(world.hand(thing="b", kind="h", holder="", other="a"), None)
        self.assertEqual((world.things, world.held("b", ""), world.held("b", "a")), (["a", "b"], (("h", 1),), (("h", 1),)))
        self.assertIs(world.step("b", "drop", "a"), None)
        self.assertEqual((world.count_of("b"), world.held("b", "a"), world.held("b", "")), (2, (("l", 1),), (("h", 1),)))
        self.assertIs(world.step("b", "come", "a"), None)
        self.assertEqual((world.count_of("b"), world.held("b", "a"), world.count_of("a")), (1, (), 1))
        events = [("make", "b"), ("step", "b", "copy", ""), ("make", "a"), ("pass", "b", "h", "", "a"), ("step", "b", "drop", "a"), ("step", "b", "come", "a")]
        self.check(world, plain(), events)
        self.assertEqual(world.count_of(thing="b"), 1)
        self.assertEqual(world.held(thing="b", holder=""), (("h", 1),))

    def test_handed_to_itself(self):
        world = world_of(plain(), "make a", "pass a h - a", "pass a h a a")
        self.assertEqual((world.held("a", "a"), world.held("a", ""), len(world.history)), ((("h", 1),), (), 3))
        self.assertEqual([world.reached(), world.idle(), world.ring()], [[], ["a"], ["a"]])
        world = world_of(plain(), "make a", "pass a h - -")
        self.assertEqual((world.held("a", ""), world.reached(), world.history[-1]), ((("h", 1),), ["a"], ("pass", "a", "h", "", "")))

    def test_outcomes_stay_with_the_holder(self):
        book = Book(["a", "b", "c"], [], [("r", "a", ("c", "b", "c"), 0), ("s", "c", ("c",), 2)], "a", 1)
        world = world_of(book, "make x", "make y", "pass x a - y", "step x r y", "step x s y")
        self.assertEqual((world.held("x", "y"), world.held("x", ""), world.held("y", ""), world.count_of("x")), ((("b", 1), ("c", 2)), (), (("a", 1),), 3))

    def test_freed(self):
        world = world_of(plain(), "make a", "make b", "step a drop -")
        self.assertEqual((world.freed(), world.freed_early()), ([], []))
        world.step("a", "come", "")
        self.assertEqual((world.freed(), world.freed_early(), world.count_of("a")), (["a"], [], 0))
        self.assertEqual((world.reached(), world.idle()), (["b"], []))

    def test_freed_by_its_making(self):
        for count in (0, -3):
            world = world_of(Book(["h"], ["h"], [("up", "h", ("h",), 9)], "h", count), "make a", "step a up -")
            self.assertEqual((world.freed(), world.freed_early(), world.reached(), world.idle()), (["a"], ["a"], [], []))
            world = world_of(Book(["h"], [], [("up", "h", ("h",), 9)], "h", count), "make a", "step a up -")
            self.assertEqual((world.freed(), world.freed_early(), world.reached(), world.idle()), (["a"], [], [], []))
        world = world_of(Book(["h"], ["h"], [], "h", 1), "make a")
        self.assertEqual(world.freed(), [])

    def test_a_freed_thing_stays_so(self):
        book = Book(["h", "l"], ["h"], [("low", "h", ("h", "l"), -1), ("up", "l", ("l",), 5), ("drop", "h", (), -4)], "h", 1)
        world = world_of(book, "make a", "step a low -", "step a up -", "step a up -")
        self.assertEqual((world.count_of("a"), world.freed(), world.freed_early(), world.reached()), (10, ["a"], ["a"], []))
        world.step("a", "drop", "")
        self.assertEqual((world.count_of("a"), world.freed(), world.freed_early()), (6, ["a"], ["a"]))

    def test_early_is_judged_when_it_is_freed(self):
        book = Book(["h", "l", "x"], ["h"], [("low", "h", ("l",), -1), ("back", "x", ("h",), 5), ("turn", "l", (), -1), ("jump", "l", ("x",), -1)], "h", 2)
        world = world_of(book, "make a", "step a low -", "step a turn -")
        self.assertEqual((world.freed(), world.freed_early()), (["a"], []))
        # What may become a handle is alive before it is one.
        world = world_of(book, "make a", "step a low -", "step a jump -", "step a back -")
        self.assertEqual((world.freed(), world.freed_early(), world.count_of("a")), (["a"], ["a"], 5))
        book = Book(["h", "l"], ["h"], [("drop", "h", ("l",), -1), ("come", "l", (), 0), ("copy", "h", ("h", "l"), -1)], "h", 1)
        world = world_of(book, "make a", "step a drop -", "step a come -")
        self.assertEqual((world.freed(), world.freed_early()), (["a"], []))
        world = world_of(book, "make a", "step a copy -", "step a drop -", "step a come -", "step a come -")
        self.assertEqual((world.freed(), world.freed_early()), (["a"], ["a"]))

    def test_early_whoever_holds_it(self):
        book = Book(["h", "l"], ["h"], [("copy", "h", ("h", "l"), 0), ("come", "l", (), -1)], "h", 1)
        for holder in ("-", "a", "b", "c"):
            world = world_of(book, "make a", "make b", "make c", "step c copy -", "step c come -", "step a copy -", f"pass a h - {holder}", "step a come -")
            self.assertEqual((world.freed(), world.freed_early()), (["a", "c"], ["a", "c"]))
            self.assertEqual(world.held("a", holder.replace("-", "")), (("h", 1),))

    def test_what_a_freed_thing_holds_goes_on(self):
        world = world_of(plain(), "make a", "make b", "pass b h - a", "step a drop -", "step a come -", "step b copy a", "step b drop a", "pass b l a -")
        self.assertEqual((world.freed(), world.held("b", "a"), world.held("b", ""), world.count_of("b")), (["a"], (("h", 1),), (("l", 1),), 2))
        world.hand("b", "h", "a", "a")
        world.hand("b", "l", "", "a")
        self.assertEqual(world.held("b", "a"), (("h", 1), ("l", 1)))
        self.assertEqual((world.reached(), world.idle(), world.ring()), ([], ["b"], []))

    def test_many_worlds(self):
        chance = random.Random(91)
        told = Counter()
        for book in BOOKS[:120] + OTHERS * 6:
            world = World(book)
            events = drawn_events(book, chance, chance.randint(0, 25))
            for at, event in enumerate(events):
                self.assertIs(do(world, event), None)
                self.check(world, book, events[:at + 1])
            for name in ("freed", "freed_early", "reached", "idle", "ring"):
                told[name] += len(getattr(world, name)()) > 0
        self.assertTrue(min(told.values()) > 5 and len(told) == 5, told)


class Reached(Checks):
    def test_chains(self):
        world = world_of(plain(), "make a", "make b", "make c", "pass b h - a", "pass c h - b")
        self.assertEqual((world.reached(), world.idle(), world.ring()), (["a", "b", "c"], [], []))
        world.step("a", "drop", "")
        self.assertEqual((world.reached(), world.idle(), world.ring()), ([], ["a", "b", "c"], []))
        world.step("a", "come", "")
        self.assertEqual((world.freed(), world.reached(), world.idle(), world.ring()), (["a"], [], ["b", "c"], []))

    def test_only_what_is_alive_reaches(self):
        book = Book(["h", "l", "m"], ["m"], [("r", "h", ("l",), 0), ("s", "h", ("m",), 0), ("t", "m", (), 0), ("u", "l", (), 0)], "h", 1)
        world = world_of(book, "make a", "make b", "step b r -")
        self.assertEqual((world.reached(), world.idle()), (["a"], ["b"]))
        world = world_of(book, "make a", "step a s -")
        self.assertEqual(world.reached(), ["a"])

    def test_a_freed_thing_does_not_pass_it_on(self):
        book = Book(["h", "l"], ["h"], [("copy", "h", ("h", "l"), 0), ("come", "l", (), -1)], "h", 1)
        world = world_of(book, "make a", "make b", "pass b h - a", "step a copy -", "step a come -")
        self.assertEqual((world.freed(), world.freed_early(), world.held("a", "")), (["a"], ["a"], (("h", 1),)))
        self.assertEqual((world.reached(), world.idle(), world.ring()), ([], ["b"], []))
        world.hand("b", "h", "a", "")
        self.assertEqual((world.reached(), world.idle()), (["b"], []))

    def test_rings(self):
        world = world_of(plain(), "make a", "make b", "step a copy -", "step b copy -", "pass a h - b", "pass b h - a")
        self.assertEqual((world.reached(), world.idle(), world.ring()), (["a", "b"], [], []))
        world.step("a", "drop", "")
        self.assertEqual((world.reached(), world.ring()), (["a", "b"], []))
        world.step("b", "drop", "")
        self.assertEqual((world.reached(), world.idle(), world.ring()), ([], ["a", "b"], ["a", "b"]))
        # What a ring holds is in none if it holds nothing of the ring itself; it is in the set, though, as it is held by one of it.
        world.make("c")
        world.hand("c", "h", "", "a")
        self.assertEqual((world.idle(), world.ring()), (["a", "b", "c"], ["a", "b", "c"]))
        world.make("d")
        world.hand("d", "h", "", "c")
        self.assertEqual(world.ring(), ["a", "b", "c", "d"])
        world.make("e")
        world.step("e", "drop", "")
        self.assertEqual((world.idle(), world.ring()), (["a", "b", "c", "d", "e"], ["a", "b", "c", "d"]))

    def test_what_holds_a_ring_is_in_none(self):
        world = world_of(plain(), "make a", "make b", "step b copy -", "pass b h - a", "pass b h - b", "step a drop -")
        self.assertEqual((world.idle(), world.ring()), (["a", "b"], ["b"]))

    def test_freed_things_are_in_no_ring(self):
        book = Book(["h", "l"], ["h"], [("copy", "h", ("h", "h", "l"), 1), ("come", "l", (), -9)], "h", 1)
        world = world_of(book, "make a", "make b", "step a copy -", "pass a h - b", "pass a h - b", "pass b h - a", "step a come -")
        self.assertEqual((world.freed(), world.idle(), world.ring()), (["a"], ["b"], []))

    def test_two_rings(self):
        world = world_of(plain(), "make a", "make b", "make c", "make d", "pass a h - b", "pass b h - a", "pass c h - d", "pass d h - c")
        self.assertEqual(world.ring(), ["a", "b", "c", "d"])
        world.step("a", "drop", "b")
        self.assertEqual((world.idle(), world.ring()), (["a", "b", "c", "d"], ["c", "d"]))

    def test_letters_do_not_hold(self):
        world = world_of(plain(), "make a", "make b", "pass a h - b", "pass b h - a", "step a drop b")
        self.assertEqual((world.idle(), world.ring()), (["a", "b"], []))

    def test_thirty_things(self):
        names = [one + two for one in "abcdef" for two in "vwxyz"]
        world = World(plain())
        for name in names:
            world.make(name)
        for name, after in zip(names, names[1:] + names[:1]):
            world.hand(after, "h", "", name)
        self.assertEqual((world.reached(), world.idle(), world.ring()), ([], names, names))
        world.step(names[7], "copy", names[6])
        world.hand(names[7], "h", names[6], "")
        self.assertEqual((world.reached(), world.idle(), world.ring()), (names, [], []))


class Undo(Checks):
    def test_back_and_again(self):
        chance = random.Random(92)
        for book in BOOKS[:60] + OTHERS * 5:
            events = drawn_events(book, chance, 25)
            world = replayed(book, events)
            self.check(world, book, events)
            for at in reversed(range(len(events))):
                self.assertEqual(world.undo(), events[at])
                self.check(world, book, events[:at])
            self.assertRaises(Nothing, world.undo)
            self.check(world, book, [])
            for at, event in enumerate(events):
                do(world, event)
            self.check(world, book, events)

    def test_to_and_fro(self):
        chance = random.Random(93)
        for book in BOOKS[:40] + OTHERS * 5:
            world, events = World(book), []
            for _ in range(50):
                possible = possible_events(Judge(book, events), "abc")
                if events and (chance.random() < 0.4 or not possible):
                    self.assertEqual(world.undo(), events.pop())
                elif possible:
                    events.append(chance.choice(possible))
                    do(world, events[-1])
                self.check(world, book, events)

    def test_what_was_freed(self):
        book = Book(["h", "l"], ["h"], [("low", "h", ("h", "l"), -1), ("up", "l", (), 5), ("more", "h", ("h",), 1)], "h", 1)
        world = world_of(book, "make a", "step a low -", "step a up -")
        self.assertEqual((world.freed(), world.freed_early(), world.count_of("a")), (["a"], ["a"], 5))
        self.assertEqual(world.undo(), ("step", "a", "up", ""))
        self.assertEqual((world.freed(), world.freed_early()), (["a"], ["a"]))
        self.assertEqual(world.undo(), ("step", "a", "low", ""))
        self.assertEqual((world.freed(), world.freed_early(), world.count_of("a"), world.reached()), ([], [], 1, ["a"]))
        world.step("a", "more", "")
        world.step("a", "low", "")
        self.assertEqual((world.freed(), world.freed_early()), ([], []))
        world.step("a", "low", "")
        self.assertEqual((world.freed(), world.freed_early()), (["a"], ["a"]))
        world.undo()
        self.assertEqual((world.freed(), world.freed_early(), world.reached()), ([], [], ["a"]))

    def test_a_thing_that_is_made_again(self):
        world = world_of(Book(["h"], ["h"], [("low", "h", ("h",), -1)], "h", 1), "make b", "make a", "pass b h - a", "step a low -")
        for event in (("step", "a", "low", ""), ("pass", "b", "h", "", "a"), ("make", "a")):
            self.assertEqual(world.undo(), event)
        self.assertEqual((world.things, world.freed(), world.freed_early()), (["b"], [], []))
        self.assertRaises(NoThing, world.count_of, "a")
        self.assertRaises(NoHolder, world.held, "b", "a")
        world.make("a")
        self.assertEqual((world.held("b", "a"), world.held("a", ""), world.freed(), world.count_of("a")), ((), (("h", 1),), [], 1))

    def test_nothing(self):
        world = World(plain())
        self.assertRaises(Nothing, world.undo)
        world.make("a")
        self.assertEqual(world.undo(), ("make", "a"))
        with self.assertRaises(Nothing) as caught:
            world.undo()
        self.assertIsInstance(caught.exception, HandleError)
        self.check(world, plain(), [])


class Forks(Checks):
    def test_each_goes_on_by_itself(self):
        chance = random.Random(94)
        for book in BOOKS[:30] + OTHERS * 4:
            events = drawn_events(book, chance, 12, "abc")
            worlds = [[replayed(book, events), events]]
            for _ in range(40):
                at = chance.randrange(len(worlds))
                world, told = worlds[at]
                possible = possible_events(Judge(book, told), "abcd")
                way = chance.random()
                if way < 0.15 and len(worlds) < 6:
                    other = world.fork()
                    self.assertIs(type(other), World)
                    worlds.append([other, list(told)])
                elif way < 0.45 and told:
                    self.assertEqual(world.undo(), told[-1])
                    worlds[at][1] = told[:-1]
                elif possible:
                    worlds[at][1] = told + [chance.choice(possible)]
                    do(world, worlds[at][1][-1])
            for world, told in worlds:
                self.check(world, book, told)
                while told:
                    self.assertEqual(world.undo(), told[-1])
                    told = told[:-1]
                self.check(world, book, [])

    def test_forks_of_forks(self):
        world = world_of(plain(), "make a", "step a copy -")
        other = world.fork()
        third = other.fork()
        other.hand("a", "h", "", "a")
        third.undo()
        world.step("a", "drop", "")
        self.check(world, plain(), [("make", "a"), ("step", "a", "copy", ""), ("step", "a", "drop", "")])
        self.check(other, plain(), [("make", "a"), ("step", "a", "copy", ""), ("pass", "a", "h", "", "a")])
        self.check(third, plain(), [("make", "a")])
        third.undo()
        self.assertRaises(Nothing, third.undo)
        self.check(other, plain(), [("make", "a"), ("step", "a", "copy", ""), ("pass", "a", "h", "", "a")])

    def test_fork_of_freed_things(self):
        book = Book(["h"], ["h"], [("low", "h", ("h",), -1), ("up", "h", ("h",), 7)], "h", 1)
        world = world_of(book, "make a", "step a low -", "step a up -")
        other = world.fork()
        self.assertEqual((other.freed(), other.freed_early(), other.count_of("a")), (["a"], ["a"], 7))
        world.undo()
        world.undo()
        self.assertEqual((other.freed(), other.freed_early(), other.reached()), (["a"], ["a"], []))
        other.undo()
        other.undo()
        self.assertEqual((other.freed(), other.freed_early(), other.reached()), ([], [], ["a"]))
        self.assertEqual(World(book).fork().history, [])


class Replayed(Checks):
    def test_worlds(self):
        chance = random.Random(95)
        for book in BOOKS[:60] + OTHERS:
            events = drawn_events(book, chance, 15)
            given = copy.deepcopy(events)
            world = replayed(events=events, book=book)
            self.assertIs(type(world), World)
            self.check(world, book, given)
            events.clear()
            self.check(world, book, given)
            other = replayed(world.book, world.history)
            world.make("zz")
            self.check(other, book, given)

    def test_no_events(self):
        self.check(replayed(plain(), []), plain(), [])


class Errors(unittest.TestCase):
    def setUp(self):
        self.world = world_of(plain(), "make a", "make b", "make c", "step c drop -", "step c come -", "step a copy -", "pass a h - b", "step a drop b")
        self.before = (told_by(self.world), self.world.history)

    def raised(self, error, name, call, *told):
        with self.assertRaises(error, msg=repr(told)) as caught:
            call(*told)
        self.assertEqual((told_by(self.world), self.world.history), self.before)
        return getattr(caught.exception, name)

    def test_bad_names(self):
        for value in VALUES + ["", " ", "A", "a1", "abcdefghi", ["a"], ("a",)]:
            if not is_plain_name(value):
                self.assertIs(self.raised(BadName, "value", self.world.make, value), value)
        for name in ("a", "b", "c"):
            self.assertEqual(self.raised(NamedTwice, "name", self.world.make, name), name)
        for name in ("d", "abcdefgh", "outside", "h", "copy"):
            self.assertIs(self.world.make(name), None)

    def test_no_things(self):
        for value in VALUES + ["d", "h", "A", ["a"], ("a",), {"a": 1}]:
            for call, *told in (
                    (self.world.step, "copy", ""), (self.world.step, None, None), (self.world.step, "come", "zz"), (self.world.hand, "h", "", ""),
                    (self.world.hand, None, None, None), (self.world.count_of,), (self.world.held, ""), (self.world.held, None), (self.world.held, "zz")):
                self.assertIs(self.raised(NoThing, "value", call, value, *told), value)

    def test_no_rules(self):
        for value in VALUES + ["zz", "h", "Copy", ["copy"], ("copy",)]:
            for holder in ("", "b", "c", "zz", None, value):
                self.assertIs(self.raised(NoRule, "value", self.world.step, "a", value, holder), value)

    def test_no_kinds(self):
        for value in VALUES + ["zz", "x", "H", ["h"], ("h",)]:
            for holder, other in (("", ""), ("zz", ""), ("", None), (None, "zz"), ("b", "c"), (value, value)):
                self.assertIs(self.raised(NoKind, "value", self.world.hand, "a", value, holder, other), value)

    def test_no_holders(self):
        for value in [value for value in VALUES if value != ""] + ["d", "h", "A", "outside", ["a"], ("a",), [""], {"a": 1}]:
            self.assertIs(self.raised(NoHolder, "value", self.world.held, "a", value), value)
            for rule in ("copy", "drop", "come"):
                self.assertIs(self.raised(NoHolder, "value", self.world.step, "a", rule, value), value)
            for kind in ("h", "l"):
                for other in ("", "a", "zz", None):
                    self.assertIs(self.raised(NoHolder, "value", self.world.hand, "a", kind, value, other), value)
                    self.assertIs(self.raised(NoHolder, "value", self.world.hand, "a", kind, "", value), value)
                    self.assertIs(self.raised(NoHolder, "value", self.world.hand, "a", kind, "c", value), value)

    def test_not_held(self):
        for rule, kind, holder in (("come", "l", ""), ("copy", "h", "b"), ("drop", "h", "b"), ("drop", "h", "a"), ("come", "l", "c"), ("come", "l", "a")):
            self.assertEqual(self.raised(NotHeld, "name", self.world.step, "a", rule, holder), kind)
            for other in ("", "a", "b", "c", holder):
                self.assertEqual(self.raised(NotHeld, "name", self.world.hand, "a", kind, holder, other), kind)
        self.assertEqual(self.raised(NotHeld, "name", self.world.step, "c", "drop", ""), "h")
        self.world.step("a", "come", "b")
        self.before = (told_by(self.world), self.world.history)
        self.assertEqual(self.raised(NotHeld, "name", self.world.step, "a", "come", "b"), "l")

    def test_behind_events_that_were_taken_back(self):
        while self.world.history:
            self.world.undo()
        self.before = (told_by(self.world), [])
        self.assertEqual(self.raised(NoThing, "value", self.world.count_of, "a"), "a")
        self.assertEqual(self.raised(NoThing, "value", self.world.step, "a", "copy", ""), "a")
        self.assertEqual(self.raised(NoThing, "value", self.world.hand, "a", "h", "", ""), "a")
        self.world.make("b")
        self.before = (told_by(self.world), [("make", "b")])
        self.assertEqual(self.raised(NoHolder, "value", self.world.hand, "b", "h", "", "a"), "a")
        self.assertEqual(self.raised(NoHolder, "value", self.world.held, "b", "a"), "a")
        self.assertEqual(self.raised(NotHeld, "name", self.world.step, "b", "copy", "b"), "h")
        self.assertEqual(self.raised(NamedTwice, "name", self.world.make, "b"), "b")
        self.world.make("a")

    def test_many(self):
        chance = random.Random(96)
        told = Counter()
        for book in BOOKS[:60] + OTHERS * 2:
            events = drawn_events(book, chance, 12, "ab")
            judge, self.world = Judge(book, events), replayed(book, events)
            self.before = (told_by(self.world), self.world.history)
            names = [rule[0] for rule in book.rules]
            holders = ["", "", "a", "b", "c", None]
            for _ in range(20):
                event = chance.choice([
                    ("make", chance.choice(["a", "b", "A", ""])),
                    ("step", chance.choice(["a", "b", "c"]), chance.choice([*names, "zz"]), chance.choice(holders)),
                    ("pass", chance.choice(["a", "b", "c"]), chance.choice([*book.kinds, "zz"]), chance.choice(holders), chance.choice(holders))])
                if event not in possible_events(judge, "abcde"):
                    error, name, value = self.due(judge, event)
                    self.assertEqual(self.raised(error, name, do, self.world, event), value, event)
                    told[error] += 1
        self.assertTrue(min(told.values()) > 5 and len(told) == 7, told)

    def due(self, judge, event):
        """The error that is due for an event that can't be done, its argument's name and what that is."""
        word, thing, *more = event
        if word == "make":
            return (NamedTwice, "name", thing) if thing in judge.counts else (BadName, "value", thing)
        if thing not in judge.counts:
            return NoThing, "value", thing
        kind = more[0]
        if word == "step":
            kinds = {rule[0]: rule[1] for rule in judge.book.rules}
            if kind not in kinds:
                return NoRule, "value", kind
            kind = kinds[kind]
        elif kind not in judge.book.kinds:
            return NoKind, "value", kind
        for holder in more[1:]:
            if holder not in judge.holders():
                return NoHolder, "value", holder
        return NotHeld, "name", kind


class Copies(Checks):
    def test_results_are_new(self):
        world = world_of(plain(), "make a", "make b", "pass b h - b", "make c", "step c drop -", "step c come -")
        events = world.history
        for ask in (
                lambda: world.things, lambda: world.history, world.freed, world.freed_early, world.reached, world.idle, world.ring,
                lambda: world.book.kinds, lambda: world.book.rules):
            before = ask()
            self.assertIs(type(before), list)
            ask().append("zz")
            ask().clear()
            self.assertEqual(ask(), before)
            self.assertIsNot(ask(), ask())
        self.check(world, plain(), events)

    def test_kinds_of_values(self):
        world = world_of(plain(), "make a", "step a copy -", "pass a h - a")
        self.assertEqual([type(event) for event in world.history], [tuple] * 3)
        self.assertEqual([type(world.held("a", "")), type(world.held("a", "")[0]), type(world.count_of("a"))], [tuple, tuple, int])
        self.assertEqual(type(world.undo()), tuple)

    def test_worlds_of_equal_books_tell_the_same(self):
        chance = random.Random(97)
        for book in BOOKS[:40]:
            events = drawn_events(book, chance, 15)
            other = Book(book.kinds[::-1], book.handles[::-1], book.rules[::-1], book.start, book.amount)
            self.assertEqual(told_by(replayed(other, events)), told_by(replayed(book, events)))

    def test_a_thing_by_itself_goes_as_a_run(self):
        chance = random.Random(98)
        for book in BOOKS[:80] + OTHERS:
            events = drawn_events(book, chance, 25, "abc")
            world = replayed(book, events)
            for thing in world.things:
                run = [event[2] for event in events if event[0] == "step" and event[1] == thing]
                count, lot = run_stands(book, run)[-1]
                total = Counter()
                for holder in ["", *world.things]:
                    total.update(dict(world.held(thing, holder)))
                self.assertEqual((world.count_of(thing), tuple(sorted(total.items()))), (count, lot))
