"""The examples of the whole interface, and what DOC.md promises over the whole program ([2], [3], [19])."""

import random
import unittest
from collections import Counter

from farhandles.books import Book
from farhandles.errors import BadLine
from farhandles.faults import early_run, faulty_stands, is_never_early, is_never_kept, kept_run, never_early, never_kept
from farhandles.runs import is_run, is_walk, mark, run_stands, stands
from farhandles.sums import (
    end_sum, end_walk, floor, is_floor, is_lift, is_roof, is_sink, least_sum, least_walk, lift, roof, sink)
from farhandles.texts import format_book, read_book
from farhandles.verdicts import bad_run, decide, is_paper, is_right, paper
from farhandles.ways import about, alive, ending, shortest_about, shortest_end, way_to_nothing
from farhandles.weights import are_bars, are_weights, bars, weighed, weights
from farhandles.worlds import World, replayed
from farhandles.worths import are_two_walks, are_worths, two_walks, worths
from tests.samples import drawn_books, turned

BOOKS = drawn_books(250, 5, "whole") + drawn_books(50, 9, "whole")
RENAMED = "abcdefghijklmnopqrstuvwxyz"


def names_of(book):
    return [rule[0] for rule in book.rules]


def drawn_prices(book, chance):
    return {name: chance.randint(-4, 4) * chance.choice([1, 1, 10 ** 29]) for name in names_of(book)}


def drawn_untold(book, chance):
    return [name for name in names_of(book) if chance.random() < 0.5]


def drawn_letters(book, chance):
    return {word: [kind for kind in book.kinds if chance.random() < 0.5] for word in ("twice", "lost")}


class Examples(unittest.TestCase):
    """As the interface gives them, stage by stage."""

    counting = Book(["h", "l"], ["h"], [("copy", "h", ("h", "h", "l"), 0), ("drop", "h", (), -1), ("come", "l", (), 1)], "h", 1)
    shared = Book(
        ["h", "g", "l"], ["h", "g"],
        [("copy", "h", ("g", "g"), 0), ("drop", "h", ("l", "l"), 0), ("lose", "g", ("l",), 0), ("come", "l", (), -1)], "h", 2)

    def test_books(self):
        book = self.counting
        told = [book.kinds, book.rule_named("drop"), book == Book(("l", "h"), ("h",), book.rules[::-1], "h", 1)]
        self.assertEqual(told, [["h", "l"], ("drop", "h", (), -1), True])

    def test_runs(self):
        book = self.counting
        told = [run_stands(book, ["copy", "drop"]), mark(book, ["copy", "drop"]), mark(book, ["drop"]), is_walk(book, "l", ["come"])]
        self.assertEqual(told, [[(1, (("h", 1),)), (1, (("h", 2), ("l", 1))), (0, (("h", 1), ("l", 1)))], "early", "going", True])

    def test_ways(self):
        book = Book(["h", "l", "x"], ["h"], [("pass", "h", ("l",), 0), ("come", "l", ("h",), 0), ("drop", "h", (), -1)], "h", 1)
        told = [alive(book), about(book), ending(book), way_to_nothing(book, "l"), shortest_about(book, "l"), shortest_end(book, "l")]
        self.assertEqual(told, [["h", "l"], ["h", "l"], ["h", "l"], 2, ["pass"], ["come", "drop"]])

    def test_sums(self):
        book = self.counting
        prices = {"copy": 1, "drop": -1, "come": 0}
        told = [least_sum(book, prices, "h"), floor(book, prices, "l")["l"], end_sum(book, {"copy": 0, "drop": -1, "come": 1}, "h")]
        self.assertEqual(told, [-1, 0, -1])
        prices = {"copy": 0, "drop": -1, "come": 1}
        self.assertEqual([least_sum(book, prices, "h"), is_sink(book, prices, "h", ([], "h", ["copy", "drop"]))], [None, True])

    def test_verdicts(self):
        self.assertEqual([is_right(self.counting), decide(self.counting)[0]], [False, "early"])
        self.assertEqual([is_right(self.shared), is_paper(self.shared, paper(self.shared))], [True, True])

    def test_worths(self):
        book = Book(["h", "l"], ["h"], [("drop", "h", ("l", "l"), 0), ("come", "l", (), -1)], "h", 2)
        other = Book(["h"], ["h"], [("one", "h", (), -1), ("two", "h", (), -2)], "h", 1)
        self.assertEqual([worths(book), are_two_walks(other, ("h", ["one"], ["two"]))], [{"h": 2, "l": 1}, True])

    def test_weights(self):
        book = Book(["h", "g"], ["h", "g"], [("copy", "h", ("g", "g"), 0), ("lose", "h", (), 0), ("drop", "g", (), 0)], "h", 1)
        other = Book(["h"], ["h"], [("copy", "h", ("h", "h"), 0)], "h", 1)
        told = [are_weights(book, ["copy"], {"h": 2, "g": 1}), weighed(book, {"h": 2, "g": 1}).rules, weights(other, ["copy"])]
        self.assertEqual(told, [True, [("copy", "h", ("g", "g"), 0), ("lose", "h", (), -2), ("drop", "g", (), -1)], None])
        self.assertIs(are_bars(other, ["copy"], {"copy": -1}), True)

    def test_faults(self):
        book, letters = self.shared, {"twice": ["l"], "lost": ["l"]}
        told = [
            never_early(book, letters, 0) is None, never_early(book, letters, 1),
            faulty_stands(book, early_run(book, letters, 1), letters, 1)[-1][0] <= 0,
            faulty_stands(book, kept_run(book, letters, 1), letters, 1)[-1]]
        self.assertEqual(told, [False, None, True, (1, ())])

    def test_worlds(self):
        world = World(Book(["h", "l"], ["h"], [("drop", "h", ("l",), 0), ("come", "l", (), -1)], "h", 1))
        told = [world.make("a"), world.make("b"), world.hand("b", "h", "", "a"), world.step("a", "drop", ""), world.reached(), world.idle(), world.ring()]
        self.assertEqual(told, [None, None, None, None, [], ["a", "b"], []])

    def test_texts(self):
        book = Book(["h", "l"], ["h"], [("drop", "h", ("l",), 0), ("come", "l", (), -1)], "h", 1)
        self.assertEqual(format_book(book).split("\n"), ["kinds h l", "handles h", "start h 1", "drop h to l by 0", "come l to - by -1"])
        self.assertIs(read_book(format_book(book)) == book, True)
        with self.assertRaises(BadLine) as caught:
            read_book("kinds h\nhandles")
        self.assertEqual(caught.exception.line, 3)


class Renaming:
    """Other names for the kinds and rules of a book, by chance, and the book with them in another order."""

    def __init__(self, book, chance):
        self.kinds = self.drawn(book.kinds, chance)
        self.rules = self.drawn(names_of(book), chance)
        rules = [
            (self.rules[name], self.kinds[kind], tuple(self.kinds[part] for part in outcome), change)
            for name, kind, outcome, change in book.rules]
        handles = [self.kinds[kind] for kind in book.handles]
        self.book = turned(Book([self.kinds[kind] for kind in book.kinds], handles, rules, self.kinds[book.start], book.amount), chance)

    def drawn(self, names, chance):
        new = chance.sample([one + other for one in RENAMED for other in RENAMED], len(names))
        return dict(zip(names, new))


class Exchanged(unittest.TestCase):
    def test_names_and_orders(self):
        chance = random.Random(111)
        for book in BOOKS:
            new = Renaming(book, chance)
            self.assertEqual(decide(new.book)[0], decide(book)[0])
            for ask in (alive, about, ending):
                self.assertEqual(ask(new.book), sorted(new.kinds[kind] for kind in ask(book)))
            found = worths(book)
            self.assertEqual(worths(new.book), None if found is None else {new.kinds[kind]: number for kind, number in found.items()})
            self.compare_sums(book, new, drawn_prices(book, chance))
            untold = drawn_untold(book, chance)
            self.assertIs(weights(new.book, [new.rules[name] for name in untold]) is None, weights(book, untold) is None)
            if ending(book) == sorted(book.kinds):
                self.compare_faults(book, new, drawn_letters(book, chance))

    def compare_sums(self, book, new, prices):
        other = {new.rules[name]: price for name, price in prices.items()}
        for kind in book.kinds:
            self.assertEqual(way_to_nothing(new.book, new.kinds[kind]), way_to_nothing(book, kind))
            self.assertEqual(least_sum(new.book, other, new.kinds[kind]), least_sum(book, prices, kind))
            self.assertEqual(self.length(shortest_about(new.book, new.kinds[kind])), self.length(shortest_about(book, kind)))
            if kind in ending(book):
                self.assertEqual(end_sum(new.book, other, new.kinds[kind]), end_sum(book, prices, kind))

    def length(self, run):
        return None if run is None else len(run)

    def compare_faults(self, book, new, letters):
        other = {word: [new.kinds[kind] for kind in kinds] for word, kinds in letters.items()}
        for most in (0, 1, 2):
            self.assertIs(never_early(new.book, other, most) is None, never_early(book, letters, most) is None)
            self.assertIs(never_kept(new.book, other, most) is None, never_kept(book, letters, most) is None)

    def test_papers_are_those_of_the_renamed_book(self):
        chance = random.Random(112)
        told = Counter()
        for book in BOOKS:
            found = paper(book)
            if found is not None:
                new = Renaming(book, chance)
                value = {key: {new.kinds[kind]: number for kind, number in table.items()} for key, table in found.items()}
                self.assertIs(is_paper(new.book, value), True)
                told["papers"] += 1
        self.assertGreater(told["papers"], 50)


class Judged(unittest.TestCase):
    def test_papers_and_bad_runs(self):
        told = Counter()
        for book in BOOKS:
            word, found = decide(book)
            told[word] += 1
            self.assertIs(is_right(book), word == "right")
            if word == "right":
                self.assertIs(is_paper(book, found), True)
                self.assertIs(bad_run(book), None)
                self.assertIs(is_floor(book, self.changes(book), found["beside"]), True)
                self.assertIs(is_roof(book, self.changes(book), found["roof"]), True)
            else:
                self.assertEqual((is_run(book, found), mark(book, found), bad_run(book)), (True, word, found))
        self.assertTrue(min(told.values()) > 15 and len(told) == 4, told)

    def changes(self, book):
        return {rule[0]: rule[3] for rule in book.rules}

    def test_sums(self):
        chance = random.Random(113)
        told = Counter()
        for book in BOOKS:
            prices = drawn_prices(book, chance)
            for kind in book.kinds:
                least, sinks = least_sum(book, prices, kind), sink(book, prices, kind)
                self.assertIs(least is None, sinks is not None)
                if least is None:
                    self.assertIs(is_sink(book, prices, kind, sinks), True)
                else:
                    self.assertEqual(sum(prices[name] for name in least_walk(book, prices, kind)), least)
                    self.assertIs(is_floor(book, prices, floor(book, prices, kind)), True)
                    self.assertEqual(floor(book, prices, kind)[kind], least)
                told["least", least is None] += 1
                if kind in ending(book):
                    self.check_end(book, prices, kind, told)
        self.assertTrue(min(told.values()) > 20 and len(told) == 4, told)

    def check_end(self, book, prices, kind, told):
        most, lifts = end_sum(book, prices, kind), lift(book, prices, kind)
        self.assertIs(most is None, lifts is not None)
        if most is None:
            self.assertIs(is_lift(book, prices, kind, lifts), True)
        else:
            self.assertEqual(stands(book, kind, end_walk(book, prices, kind))[-1][1], ())
            self.assertEqual(sum(prices[name] for name in end_walk(book, prices, kind)), most)
            self.assertIs(is_roof(book, prices, roof(book, prices, kind)), True)
            self.assertEqual(roof(book, prices, kind)[kind], most)
        told["end", most is None] += 1

    def test_worths_weights_and_bars(self):
        chance = random.Random(114)
        for book in BOOKS:
            found = worths(book)
            self.assertIs(are_worths(book, found), found is not None)
            self.assertIs(are_two_walks(book, two_walks(book)), found is None)
            untold = drawn_untold(book, chance)
            found = weights(book, untold)
            self.assertIs(are_weights(book, untold, found), found is not None)
            self.assertIs(are_bars(book, untold, bars(book, untold)), found is None)

    def test_faulty_papers(self):
        chance = random.Random(115)
        for book in BOOKS:
            if ending(book) == sorted(book.kinds):
                letters = drawn_letters(book, chance)
                for most in (0, 1, 3):
                    found = never_early(book, letters, most)
                    self.assertIs(is_never_early(book, letters, most, found), found is not None)
                    self.assertIs(early_run(book, letters, most) is None, found is not None)
                    found = never_kept(book, letters, most)
                    self.assertIs(is_never_kept(book, letters, most, found), found is not None)
                    self.assertIs(kept_run(book, letters, most) is None, found is not None)

    def test_judges_take_what_any_call_returned(self):
        chance = random.Random(116)
        for book in BOOKS[:60]:
            prices, untold = drawn_prices(book, chance), drawn_untold(book, chance)
            values = [
                paper(book), bad_run(book), decide(book), worths(book), two_walks(book), weights(book, untold), bars(book, untold), book,
                sink(book, prices, book.start), floor(book, prices, book.start), run_stands(book, []), World(book), format_book(book)]
            for value in values:
                judged = [
                    is_paper(book, value), is_floor(book, prices, value), is_roof(book, prices, value), is_sink(book, prices, book.start, value),
                    is_lift(book, prices, book.start, value), are_worths(book, value), are_two_walks(book, value), are_weights(book, untold, value),
                    are_bars(book, untold, value), is_run(book, value), is_walk(book, book.start, value)]
                self.assertEqual({type(each) for each in judged}, {bool})


class Together(unittest.TestCase):
    def test_weighed_books_are_right(self):
        chance = random.Random(117)
        told = Counter()
        for book in BOOKS:
            untold = drawn_untold(book, chance)
            found = weights(book, untold)
            if found is not None and ending(book) == sorted(book.kinds):
                other = weighed(book, found)
                self.assertIs(is_right(other), True)
                self.assertEqual(worths(other), found)
                self.assertEqual({rule[3] for rule in other.rules if rule[0] in untold} - {0}, set())
                told[len(untold) > 0] += 1
        self.assertTrue(min(told[True], told[False]) > 10, told)

    def test_right_books_have_neither_fault_without_faults(self):
        told = Counter()
        for book in BOOKS:
            if ending(book) == sorted(book.kinds):
                letters = {"twice": book.kinds, "lost": book.kinds}
                good = [ask(book, letters, 0) is not None for ask in (never_early, never_kept)]
                self.assertIs(all(good), is_right(book))
                if decide(book)[0] == "early":
                    self.assertIs(good[0], False)
                told[is_right(book)] += 1
        self.assertTrue(min(told[True], told[False]) > 30, told)

    def test_a_world_steps_as_a_run_does(self):
        chance = random.Random(118)
        for book in BOOKS[:150]:
            run = bad_run(book)
            run = run if run is not None else shortest_end(book, book.start)
            world = World(book)
            world.make("a")
            for at, name in enumerate(run[:60]):
                count, lot = run_stands(book, run[:at])[-1]
                self.assertEqual((world.count_of("a"), world.held("a", "")), (count, lot))
                world.step("a", name, "")
            count, lot = run_stands(book, run[:60])[-1]
            self.assertEqual((world.count_of("a"), world.held("a", "")), (count, lot))
            counts = [count for count, _ in run_stands(book, run[:60])]
            self.assertEqual(world.freed(), ["a"] * (min(counts) <= 0))
            early = [mark(book, run[:at]) for at in range(len(counts)) if counts[at] <= 0][:1]
            if early and set(about(book)) <= set(ending(book)):
                self.assertEqual(world.freed_early(), ["a"] * (early[0] == "early"))
            world.make("b")
            if chance.random() < 0.5:
                self.assertEqual(world.fork().history, replayed(book, world.history).history)

    def test_books_written_and_read_again(self):
        chance = random.Random(119)
        for book in BOOKS:
            other = read_book(format_book(book))
            self.assertEqual((other, format_book(other)), (book, format_book(book)))
            self.assertEqual(decide(other), decide(book))
            prices, untold = drawn_prices(book, chance), drawn_untold(book, chance)
            self.assertEqual(floor(other, prices, book.start), floor(book, prices, book.start))
            self.assertEqual((weights(other, untold), bars(other, untold)), (weights(book, untold), bars(book, untold)))
            self.assertEqual((worths(other), two_walks(other)), (worths(book), two_walks(book)))
            found = weights(book, [])
            self.assertEqual(weighed(other, found), weighed(book, found))
            self.assertEqual(read_book(format_book(weighed(book, found))), weighed(book, found))

    def test_without_faults_a_faulty_run_is_a_run(self):
        letters = {"twice": [], "lost": []}
        for book in BOOKS:
            run = bad_run(book) or []
            if len(run) < 500:
                for most in (0, 3):
                    self.assertEqual(faulty_stands(book, run, letters, most), run_stands(book, run))
            if ending(book) == sorted(book.kinds):
                for ask, word in ((early_run, "early"), (kept_run, "kept")):
                    found = ask(book, letters, 3)
                    self.assertEqual(ask(book, letters, 0), found)
                    if found is not None:
                        self.assertEqual((is_run(book, found), mark(book, found)), (True, word))

    def test_more_letters_and_times_make_no_book_better(self):
        chance = random.Random(120)
        for book in BOOKS:
            if ending(book) == sorted(book.kinds):
                letters = drawn_letters(book, chance)
                everything = {"twice": book.kinds, "lost": book.kinds}
                for ask in (never_early, never_kept):
                    bad = [ask(book, letters, most) is None for most in range(4)]
                    worse = [ask(book, everything, most) is None for most in range(4)]
                    self.assertEqual((bad, worse), (sorted(bad), sorted(worse)))
                    self.assertTrue(all(one <= other for one, other in zip(bad, worse)))

    def test_an_early_faulty_run_is_one_with_more_faults_too(self):
        chance = random.Random(121)
        for book in BOOKS[:150]:
            if ending(book) == sorted(book.kinds):
                letters = drawn_letters(book, chance)
                for ask in (early_run, kept_run):
                    found = ask(book, letters, 1)
                    if found is not None:
                        for most in (2, 3):
                            self.assertEqual(faulty_stands(book, found, letters, most), faulty_stands(book, found, letters, 1))
