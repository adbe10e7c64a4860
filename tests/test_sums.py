"""Promises [3], [8], [9], [19] and stage 4 of the interface: least sums and end sums, floors, roofs, sinks, lifts."""

import copy
import itertools
import random
import unittest
from collections import Counter

from farhandles.books import Book
from farhandles.errors import BadPrices, HandleError, NoEnd, NoKind
from farhandles.sums import (
    end_sum, end_walk, floor, is_floor, is_lift, is_roof, is_sink, least_sum, least_walk, lift, roof, sink,
)
from tests.judges import (
    changes_of, cost, ended, floor_holds, least_of, lift_holds, lot_of, met, most_at_end, roof_holds, sink_holds,
)
from tests.samples import VALUES, counting, drawn_books, exchanged, ladder, some_books, turned

BOOKS = drawn_books(220, 4, "sums") + drawn_books(60, 9, "sums") + some_books(40, 6, 9, 4)
OPEN = (least_sum, least_walk, sink, floor)
CLOSED = (end_sum, end_walk, lift, roof)


def priced(*rules):
    """A book of rules told as "name kind outcome price", one letter a kind, and the prices."""
    table, prices = [], {}
    for text in rules:
        name, kind, *outcome, price = text.split()
        table.append((name, kind, tuple("".join(outcome)), 5))
        prices[name] = int(price)
    kinds = sorted({kind for rule in table for kind in (rule[1], *rule[2])} | {"a"})
    return Book(kinds, [], table, kinds[0], 1), prices


def drawn_prices(book, chance):
    """Prices by chance, some of them with many digits."""
    big = 10 ** 29 if chance.random() < 0.2 else 1
    below = chance.choice([-4, -2, 0])
    return {rule[0]: chance.randint(below, 4) * big + chance.choice([0, 0, 1]) for rule in book.rules}


def questions(seed):
    """Tuples (book, prices, kind)."""
    chance = random.Random(seed)
    for book in BOOKS:
        for prices in (changes_of(book), drawn_prices(book, chance)):
            for kind in book.kinds:
                yield book, prices, kind


class Checks(unittest.TestCase):
    def check_least(self, book, prices, kind, expected):
        """The least sum, and a walk and a floor that show it, or else a sink."""
        told = least_sum(book, prices, kind)
        self.assertEqual(told, expected)
        if told is None:
            found = sink(book, prices, kind)
            self.assertTrue(sink_holds(book, prices, kind, found), found)
            self.assertIs(is_sink(book, prices, kind, found), True)
            self.assertEqual([least_walk(book, prices, kind), floor(book, prices, kind)], [None, None])
            return found
        walk, table = least_walk(book, prices, kind), floor(book, prices, kind)
        self.assertIsNotNone(lot_of(book, kind, walk))
        self.assertEqual((type(told), cost(prices, walk)), (int, told))
        self.assertTrue(floor_holds(book, prices, table), table)
        self.assertEqual(table[kind], told)
        self.assertIs(is_floor(book, prices, table), True)
        self.assertIs(sink(book, prices, kind), None)
        return table

    def check_end(self, book, prices, kind, expected):
        """The end sum, and a walk and a roof that show it, or else a lift."""
        told = end_sum(book, prices, kind)
        self.assertEqual(told, expected)
        if told is None:
            found = lift(book, prices, kind)
            self.assertTrue(lift_holds(book, prices, kind, found), found)
            self.assertIs(is_lift(book, prices, kind, found), True)
            self.assertEqual([end_walk(book, prices, kind), roof(book, prices, kind)], [None, None])
            return found
        walk, table = end_walk(book, prices, kind), roof(book, prices, kind)
        self.assertEqual(lot_of(book, kind, walk), Counter())
        self.assertEqual((type(told), cost(prices, walk)), (int, told))
        self.assertTrue(roof_holds(book, prices, table), table)
        self.assertEqual(table[kind], told)
        self.assertIs(is_roof(book, prices, table), True)
        self.assertIs(lift(book, prices, kind), None)
        return table

    def raises(self, error, argument, expected, call, *args, **more):
        with self.assertRaises(error) as caught:
            call(*args, **more)
        self.assertIs(getattr(caught.exception, argument), expected)
        self.assertIsInstance(caught.exception, HandleError)


class Least(Checks):
    def test_example(self):
        book = counting()
        prices, changes = {"copy": 1, "drop": -1, "come": 0}, {"copy": 0, "drop": -1, "come": 1}
        told = [least_sum(book, prices, "h"), floor(book, prices, "l")["l"], end_sum(book, changes, "h")]
        self.assertEqual(told, [-1, 0, -1])
        told = [least_sum(book, changes, "h"), is_sink(book, changes, "h", ([], "h", ["copy", "drop"]))]
        self.assertEqual(told, [None, True])

    def test_none_is_above_nought(self):
        self.check_least(*priced("r a b 5", "s b 7"), "a", 0)
        self.check_least(*priced("r a b 5", "s b -5"), "a", 0)
        self.check_least(*priced("r a b 5", "s b -6"), "a", -1)
        self.check_least(*priced("r a b 5", "s b -6", "t a -1"), "a", -1)
        self.check_least(*priced("r a b 5", "s b -6", "t a -2"), "a", -2)
        self.check_least(*priced(), "a", 0)
        self.check_least(*priced("r a a 0", "s a aaa 0"), "a", 0)

    def test_a_kind_several_times_in_an_outcome(self):
        self.check_least(*priced("r a bbbb 3", "s b -1"), "a", -1)
        self.check_least(*priced("r a bbb 3", "s b -1"), "a", 0)
        self.check_least(*priced("r a bcbc 1", "s b -1", "t c dd 0", "u d -3"), "a", -13)
        self.check_least(*priced("r a bcbc 1", "s b -1", "t c dd 7", "u d -3"), "a", -1)

    def test_walks_need_not_end(self):
        self.check_least(*priced("r a b -3", "s b c 1"), "a", -3)
        self.check_least(*priced("r a b -3", "s b c 1", "t c -2"), "a", -4)
        self.check_least(*priced("r a bx -3", "s b b 0"), "a", -3)

    def test_rings(self):
        self.check_least(*priced("r a a -1"), "a", None)
        self.check_least(*priced("r a a 0", "s a -1"), "a", -1)
        self.check_least(*priced("r a aa 0", "s a -1"), "a", None)
        self.check_least(*priced("r a aa 1", "s a -1"), "a", -1)
        self.check_least(*priced("r a aaa 1", "s a -1"), "a", None)
        self.check_least(*priced("r a b 2", "s b c 2", "t c a -5"), "a", None)
        self.check_least(*priced("r a b 2", "s b c 2", "t c a -4"), "a", 0)
        self.check_least(*priced("r a b 2", "s b c 2", "t c a -5"), "c", None)
        self.check_least(*priced("r a b 2", "s b cd 2", "t c a -3", "u d e 1", "v e ff 0", "w f -1"), "a", 0)
        self.check_least(*priced("r a b 2", "s b cd 2", "t c a -3", "u d e 0", "v e ff 0", "w f -1"), "a", None)

    def test_rings_elsewhere(self):
        book, prices = priced("r a b 9", "s b c 9", "t c cd 9", "u d -10", "v e e -1", "w d d 0", "x f a -1")
        for kind, expected in [("a", None), ("b", None), ("c", None), ("d", -10), ("e", None), ("f", None)]:
            self.check_least(book, prices, kind, expected)
        walk, kind, ring = sink(book, prices, "a")
        self.assertEqual((walk, kind, sorted(ring)), (["r", "s"], "c", ["t", "u"]))
        self.assertEqual(sink(book, prices, "e"), ([], "e", ["v"]))

    def test_rings_over_many_kinds(self):
        kinds = "abcdefghij"
        moves = [f"{kind * 2} {kind} {after} {100 - 200 * (kind in 'bdfhj')}" for kind, after in zip(kinds, kinds[1:] + "a")]
        for kind in kinds:
            self.check_least(*priced(*moves), kind, -100 if kind in "bdfhj" else 0)
            self.check_least(*priced(*moves[:-1], "jj j a -101"), kind, None)
            self.check_least(*priced(*moves[:-1], "jj j a -99"), kind, -100 if kind in "bdfh" else -99 * (kind == "j"))

    def test_prices_of_many_digits(self):
        big = 10 ** 30 - 1
        self.check_least(*priced(f"r a bbbb {big}", f"s b {-big}"), "a", -3 * big)
        self.check_least(*priced(f"r a b {big}", f"s b a {-big}", "t a -1"), "a", -1)
        self.check_least(*priced(f"r a b {big}", f"s b a {-big - 1}", "t a -1"), "a", None)
        self.check_least(*priced(f"r a b {-10 ** 400}", f"s b c {10 ** 400 - 1}", "t c a 1"), "a", -10 ** 400)

    def test_many(self):
        told = {True: 0, False: 0}
        for book, prices, kind in questions("least"):
            expected = least_of(book, prices, kind)
            told[expected is None] += 1
            self.check_least(book, prices, kind, expected)
        self.assertTrue(min(told.values()) > 400, told)

    def test_all_walks_of_small_books(self):
        for book, prices, kind in itertools.islice(questions("walks"), 400):
            least = least_sum(book, prices, kind)
            for lot, total in lots_with_sums(book, prices, kind, 5):
                self.assertTrue(least is None or least <= total)

    def test_walks_much_longer_than_the_book(self):
        book = ladder(4, -1)
        table = self.check_least(book, changes_of(book), "a", -4 ** 9)
        self.assertEqual([table[kind] for kind in book.kinds], [-4 ** (9 - at) for at in range(10)])
        self.assertEqual(len(least_walk(book, changes_of(book), "a")), (4 ** 10 - 1) // 3)
        book = ladder(2, -1, "abcdefghijklmnop")
        self.check_least(book, changes_of(book), "a", -2 ** 15)
        rules = [(kind * 2, kind, (after,) * 4, 3) for kind, after in zip("bcdefghi", "cdefghij")]
        rules += [("drop", "j", (), -1), ("grow", "a", ("a", "b"), 0)]
        book = Book(list("abcdefghij"), [], rules, "a", 1)
        self.check_least(book, changes_of(book), "b", -1)
        self.assertEqual(len(self.check_least(book, changes_of(book), "a", None)[2]), (4 ** 9 - 1) // 3 + 1)

    def test_of_equal_sums_a_walk_has_no_round_of_sum_nought(self):
        book, prices = priced("r a b 1", "s b a -1", "t a c 0", "u c a 0", "v a -1")
        self.assertEqual(least_walk(book, prices, "a"), ["v"])
        self.check_least(book, prices, "b", -2)


def lots_with_sums(book, prices, kind, most):
    """The tuples (lot, sum) that walks of at most so many rules come to."""
    seen = newest = {(((kind, 1),), 0)}
    for _ in range(most):
        fresh = set()
        for lot, total in newest:
            for name, source, outcome, _ in book.rules:
                if source in dict(lot):
                    after = Counter(dict(lot)) - Counter([source]) + Counter(outcome)
                    fresh.add((tuple(sorted(after.items())), total + prices[name]))
        newest = fresh - seen
        seen = seen | newest
        if len(newest) > 3000:
            break
    return seen


class End(Checks):
    def test_ends(self):
        self.check_end(*priced("r a 5"), "a", 5)
        self.check_end(*priced("r a -5", "s a -7"), "a", -5)
        self.check_end(*priced("r a b 1", "s b c 2", "t c 4", "u b -9"), "a", 7)
        self.check_end(*priced("r a bbbb 3", "s b -1"), "a", -1)
        self.check_end(*priced("r a bcbc 1", "s b 1", "t c dd 0", "u d 3", "v c 7"), "a", 17)

    def test_what_does_not_end_does_not_count(self):
        self.check_end(*priced("r a 1", "s a x 9"), "a", 1)
        self.check_end(*priced("r a 1", "s a xa 9", "t x x 9", "u x a x 5"), "a", 1)
        self.check_end(*priced("r a bx 9", "s a b 1", "t b 0", "u x x 1"), "a", 1)
        self.check_end(*priced("r a b 1", "s b 0", "t b x 100", "u x b b x 100"), "a", 1)

    def test_rings(self):
        self.check_end(*priced("r a a 1", "s a 0"), "a", None)
        self.check_end(*priced("r a a 0", "s a 0"), "a", 0)
        self.check_end(*priced("r a a -1", "s a -9"), "a", -9)
        self.check_end(*priced("r a aa 1", "s a 0"), "a", None)
        self.check_end(*priced("r a aa 1", "s a -1"), "a", -1)
        self.check_end(*priced("r a aa 2", "s a -1"), "a", None)
        self.check_end(*priced("r a aaa 2", "s a -1"), "a", -1)
        self.check_end(*priced("r a b -2", "s b c -2", "t c a 5", "u c -99"), "a", None)
        self.check_end(*priced("r a b -2", "s b c -2", "t c a 4", "u c -99"), "a", -103)
        self.check_end(*priced("r a bd 0", "s b a 7", "t d -8", "u d e 0", "v e -6", "w b 0"), "a", None)
        self.check_end(*priced("r a bd 0", "s b a 7", "t d -8", "u d e 0", "v e -7", "w b 0"), "a", -7)

    def test_a_ring_needs_nothing_beside_it_that_does_not_end(self):
        self.check_end(*priced("r a ax 5", "s a 0"), "a", 0)
        self.check_end(*priced("r a ab 5", "s a 0", "t b b 1", "u b x 0"), "a", 0)
        self.check_end(*priced("r a ab 5", "s a 0", "t b b 1", "u b -5"), "a", None)
        self.check_end(*priced("r a ab 5", "s a 0", "t b b 0", "u b -5"), "a", 0)
        self.check_end(*priced("r a ab 5", "s a 0", "t b b 0", "u b -4"), "a", None)

    def test_rings_elsewhere(self):
        book, prices = priced("r a bc -9", "s b -1", "t c dd -1", "u d d 1", "v d -9", "w e 3", "x e ea -1")
        for kind, expected in [("a", None), ("b", -1), ("c", None), ("d", None), ("e", None)]:
            self.check_end(book, prices, kind, expected)
        self.assertEqual(lift(book, prices, "a"), (["r", "t"], "d", ["u"]))
        self.assertEqual(lift(book, prices, "d"), ([], "d", ["u"]))

    def test_no_end(self):
        book, prices = priced("r a b 1", "s b a 1", "t c a c 0", "u d 0", "v e de 1", "w f d 0")
        for kind in "abce":
            for ask in CLOSED:
                self.raises(NoEnd, "name", kind, ask, book, prices, kind)
                self.raises(NoEnd, "name", kind, ask, kind=kind, prices=prices, book=book)
        for kind in "df":
            self.check_end(book, prices, kind, 0)

    def test_prices_of_many_digits(self):
        big = 10 ** 30 - 1
        self.check_end(*priced(f"r a bbbb {big}", f"s b {-big}"), "a", -3 * big)
        self.check_end(*priced(f"r a a {big}", f"s a bbb {-big}", f"t b {-big}", "u a 0"), "a", None)
        self.check_end(*priced(f"r a b {big}", f"s b a {-big}", "t a 2"), "a", 2)
        self.check_end(*priced(f"r a b {big}", f"s b a {1 - big}", "t a 2"), "a", None)

    def test_many(self):
        told = {True: 0, False: 0}
        for book, prices, kind in questions("end"):
            if kind in ended(book):
                expected = most_at_end(book, prices, kind)
                told[expected is None] += 1
                self.check_end(book, prices, kind, expected)
            else:
                for ask in CLOSED:
                    self.raises(NoEnd, "name", kind, ask, book, prices, kind)
        self.assertTrue(min(told.values()) > 300, told)

    def test_all_walks_of_small_books(self):
        for book, prices, kind in itertools.islice(questions("walks"), 400):
            if kind in ended(book):
                most = end_sum(book, prices, kind)
                for lot, total in lots_with_sums(book, prices, kind, 5):
                    self.assertTrue(lot or most is None or most >= total)

    def test_walks_much_longer_than_the_book(self):
        book = ladder(4, -1)
        table = self.check_end(book, changes_of(book), "a", -4 ** 9)
        self.assertEqual([table[kind] for kind in book.kinds], [-4 ** (9 - at) for at in range(10)])
        self.assertEqual(len(end_walk(book, changes_of(book), "a")), (4 ** 10 - 1) // 3)
        rules = [(kind * 2, kind, (after,) * 4, -3) for kind, after in zip("bcdefghi", "cdefghij")]
        rules += [("drop", "j", (), 1), ("grow", "a", ("a", "b"), 0), ("lose", "a", (), -5)]
        book = Book(list("abcdefghij"), [], rules, "a", 1)
        self.assertEqual(len(self.check_end(book, changes_of(book), "a", None)[2]), (4 ** 9 - 1) // 3 + 1)


class Judges(Checks):
    def test_floors(self):
        book, prices = priced("r a bbc 1", "s b -2", "t c c 0", "u d a -1")
        for value, expected in [
                ({}, True), ({"b": -2}, True), ({"b": -3}, True), ({"b": -1}, False), ({"c": 0}, True), ({"c": -9}, True),
                ({"a": -3, "b": -2, "c": 0}, True), ({"a": -2, "b": -2, "c": 0}, False), ({"a": -3, "b": -2}, False),
                ({"a": -4, "b": -2, "c": -1}, True), ({"a": -3, "b": -2, "c": -1}, False), ({"c": 1}, False),
                ({"a": -3, "c": 0}, False), ({"d": -4, "a": -3, "b": -2, "c": 0}, True), ({"d": -4}, False),
                ({"d": -3, "a": -3, "b": -2, "c": 0}, False), ({"b": -2, "x": 0}, False), ({"b": True}, False),
                ({"b": -2, "c": False}, False), ({"b": None}, False), ({"b": "-2"}, False), ([("b", -2)], False),
                (None, False), ([], False), ({"b": [-2]}, False), ({("b",): -2}, False), ({"r": -5}, False)]:
            self.assertIs(is_floor(book, prices, value), expected, value)
            self.assertIs(is_floor(value=value, prices=prices, book=book), expected, value)
            self.assertIs(floor_holds(book, prices, value), expected, value)

    def test_roofs(self):
        book, prices = priced("r a bbc 1", "s b -2", "t c c 0", "u c 3", "v d dx 9", "w d ab 0", "y x bx 5")
        for value, expected in [
                ({}, True), ({"b": -2}, True), ({"b": -3}, False), ({"b": 9}, True), ({"c": 3}, True), ({"c": 2}, False),
                ({"a": 0, "b": -2, "c": 3}, True), ({"a": -1, "b": -2, "c": 3}, False), ({"a": 0, "b": -2}, False),
                ({"d": -2, "a": 0, "b": -2, "c": 3}, True), ({"d": -3, "a": 0, "b": -2, "c": 3}, False), ({"x": -99}, True),
                ({"d": -2, "a": 0, "b": -2, "c": 3, "x": 5}, True), ({"d": 1}, False), ({"b": True}, False),
                ({"b": -2, "y": 0}, False), ({"c": False}, False), ({"x": True}, False), ({"x": None}, False),
                ({"b": None}, False), ([("b", -2)], False), (None, False), ([], False), ({("b",): -2}, False)]:
            self.assertIs(is_roof(book, prices, value), expected, value)
            self.assertIs(is_roof(value=value, prices=prices, book=book), expected, value)
            self.assertIs(roof_holds(book, prices, value), expected, value)

    def test_sinks(self):
        book, prices = priced("r a bc 1", "s b bb -1", "t b 1", "u c -5", "v d d -1", "w a b 0")
        for kind, value, expected in [
                ("a", (["r"], "b", ["s"]), True), ("a", (["w"], "b", ["s"]), True), ("b", ([], "b", ["s"]), True),
                ("a", (["r", "u"], "b", ["s", "s", "t"]), True), ("a", (["r", "t"], "b", ["s"]), False),
                ("b", ([], "b", ["s", "t"]), False), ("b", ([], "b", []), False), ("a", ([], "b", ["s"]), False),
                ("b", ([], "b", ["s", "s", "t", "t"]), False), ("c", ([], "c", ["u"]), False),
                ("b", (["s", "t", "s"], "b", ["s"]), True), ("b", (["s", "t", "s"], "b", ["s", "t", "t"]), False),
                ("d", ([], "d", ["v"]), True), ("a", ([], "d", ["v"]), False), ("b", (["r"], "b", ["s"]), False),
                ("b", [[], "b", ["s"]], False), ("b", ((), "b", ["s"]), False), ("b", ([], "b", ("s",)), False),
                ("b", ([], "b", ["s"], 0), False), ("b", ([], "b"), False), ("b", ([], "x", ["s"]), False),
                ("b", ([], ["b"], ["s"]), False), ("b", ([], None, ["s"]), False), ("b", ([], "b", "s"), False),
                ("b", ([], "b", [["s"]]), False), ("b", ([None], "b", ["s"]), False), ("b", None, False),
                ("b", {0: [], 1: "b", 2: ["s"]}, False), ("b", (["s"], "b", [True]), False)]:
            self.assertIs(is_sink(book, prices, kind, value), expected, value)
            self.assertIs(is_sink(kind=kind, value=value, prices=prices, book=book), expected, value)
            self.assertIs(sink_holds(book, prices, kind, value), expected, value)

    def test_lifts(self):
        book, prices = priced("r a bc 1", "s b bd 3", "t b 0", "u c 0", "v d -2", "w a bx 0", "y b x 9", "z b b -1", "q b db 1")
        for kind, value, expected in [
                ("a", (["r"], "b", ["s", "v"]), True), ("a", (["r", "u"], "b", ["s", "v"]), True),
                ("b", ([], "b", ["s", "v"]), True), ("b", ([], "b", ["s"]), False), ("b", (["s"], "b", ["s", "v"]), True),
                ("a", (["w"], "b", ["s", "v"]), False), ("b", ([], "b", ["s", "v", "z"]), False),
                ("b", ([], "b", ["s", "s", "v", "v", "z"]), True), ("b", ([], "b", ["s", "s", "v"]), False),
                ("b", ([], "b", ["q", "v"]), False), ("b", ([], "b", []), False), ("b", ([], "b", ["s", "v", "t"]), False),
                ("b", (["t"], "b", ["s", "v"]), False), ("b", ([], "b", ["y"]), False), ("c", (["u"], "b", ["s", "v"]), False),
                ("a", ([], "b", ["s", "v"]), False), ("d", ([], "b", ["s", "v"]), False), ("a", (["r"], "a", ["s", "v"]), False),
                ("b", [[], "b", ["s", "v"]], False), ("b", ((), "b", ["s", "v"]), False), ("b", ([], "b", ("s", "v")), False),
                ("b", ([], "b", ["s", "v"], 0), False), ("b", ([], "b"), False), ("b", ([], None, ["s", "v"]), False),
                ("b", ([], ["b"], ["s", "v"]), False), ("b", None, False), ("b", ([], "b", [None]), False),
                ("x", ([], "b", ["s", "v"]), False), ("x", ([], "x", []), False)]:
            self.assertIs(is_lift(book, prices, kind, value), expected, value)
            self.assertIs(is_lift(kind=kind, value=value, prices=prices, book=book), expected, value)
            self.assertIs(lift_holds(book, prices, kind, value), expected, value)

    def test_values_of_any_sort(self):
        book = counting()
        prices = changes_of(book)
        for value in VALUES + [sink(book, prices, "h"), prices, ([], "h", []), ("h", "h", "h"), ([], "h", None), (1, 2, 3)]:
            self.assertIs(is_floor(book, prices, value), floor_holds(book, prices, value), value)
            self.assertIs(is_roof(book, prices, value), roof_holds(book, prices, value), value)
            self.assertIs(is_sink(book, prices, "h", value), sink_holds(book, prices, "h", value), value)
            self.assertIs(is_lift(book, prices, "h", value), lift_holds(book, prices, "h", value), value)

    def test_one_thing_exchanged(self):
        chance = random.Random(33)
        told = {}
        for book, prices, kind in questions("exchanged"):
            others = book.kinds + list(prices)
            pairs = [(floor, lambda value: is_floor(book, prices, value), lambda value: floor_holds(book, prices, value)),
                     (sink, lambda value: is_sink(book, prices, kind, value),
                      lambda value: sink_holds(book, prices, kind, value))]
            if kind in ended(book):
                pairs += [(roof, lambda value: is_roof(book, prices, value), lambda value: roof_holds(book, prices, value)),
                          (lift, lambda value: is_lift(book, prices, kind, value),
                           lambda value: lift_holds(book, prices, kind, value))]
            for ask, judge, holds in pairs:
                found = ask(book, prices, kind)
                for _ in range(4 if found is not None else 0):
                    value = exchanged(found, chance, others)
                    self.assertIs(judge(value), holds(value), (book.rules, prices, value))
                    told[ask, holds(value)] = told.get((ask, holds(value)), 0) + 1
        self.assertEqual(len(told), 8)
        self.assertTrue(min(told.values()) > 100, told)

    def test_a_lift_of_a_kind_that_does_not_end(self):
        book, prices = priced("r x a x 1", "s a a 1", "t a 0")
        self.assertIs(is_lift(book, prices, "x", (["r"], "a", ["s"])), False)
        self.assertIs(is_lift(book, prices, "x", ([], "x", ["r"])), False)
        self.assertIs(is_lift(book, prices, "a", ([], "a", ["s"])), True)

    def test_what_is_told_for_other_kinds_and_prices(self):
        for book, prices, kind in questions("others"):
            other = {name: -price for name, price in prices.items()}
            table = floor(book, prices, kind)
            if table is not None:
                self.assertIs(is_floor(book, other, table), floor_holds(book, other, table))
                self.assertIs(is_roof(book, prices, table), roof_holds(book, prices, table))
            found = sink(book, prices, kind)
            for each in book.kinds if found else []:
                self.assertIs(is_sink(book, prices, each, found), sink_holds(book, prices, each, found))
                self.assertIs(is_lift(book, other, each, found), lift_holds(book, other, each, found))


class Wrong(Checks):
    def calls(self):
        """The functions with their other arguments behind book, prices and perhaps the kind."""
        return [(ask, True, ()) for ask in OPEN + CLOSED] + [
            (is_floor, False, ({},)), (is_roof, False, ({},)), (is_sink, True, (None,)), (is_lift, True, (None,))]

    def test_bad_prices(self):
        book = counting()
        good = {"copy": 0, "drop": -1, "come": 1}
        wrong = VALUES + [
            {}, {"copy": 0, "drop": -1}, {**good, "x": 0}, {**good, "h": 0}, {"copy": 0, "drop": -1, "comes": 1},
            {**good, "come": True}, {**good, "come": None}, {**good, "drop": "1"}, {**good, "copy": [0]},
            {**good, "copy": False}, list(good.items()), list(good), [0, -1, 1], {**good, None: 1}, {**good, ("copy",): 1},
            {"copy": 0, "drop": -1, ("come",): 1}, {"copy": 0, "drop": -1, 0: 1}, {"h": 1, "l": 2}, {**good, "come": 1.0}]
        for value in wrong:
            for ask, with_kind, more in self.calls():
                with self.subTest(f"{ask.__name__} {value!r:.60}"):
                    for kind in ("h", "x", None):
                        args = (book, value, kind, *more) if with_kind else (book, value, *more)
                        self.raises(BadPrices, "value", value, ask, *args)
        self.raises(BadPrices, "value", wrong[0], least_sum, kind="h", prices=wrong[0], book=book)

    def test_no_kind(self):
        book = counting()
        prices = changes_of(book)
        for value in VALUES + ["x", "copy", "H", "hl", ["h"], ("h",), {"h": 1}]:
            if value == "h" and isinstance(value, str):
                continue
            for ask, with_kind, more in self.calls():
                if with_kind:
                    with self.subTest(f"{ask.__name__} {value!r:.60}"):
                        self.raises(NoKind, "value", value, ask, book, prices, value, *more)
        self.raises(NoKind, "value", None, least_sum, kind=None, prices=prices, book=book)

    def test_several_at_once(self):
        book, prices = priced("r a a 1", "s b 0")
        for ask in CLOSED:
            self.raises(BadPrices, "value", None, ask, book, None, "a")
            self.raises(BadPrices, "value", None, ask, book, None, "x")
            self.raises(NoKind, "value", "x", ask, book, prices, "x")
            self.raises(NoEnd, "name", "a", ask, book, prices, "a")
        for ask in OPEN:
            self.raises(BadPrices, "value", None, ask, book, None, "x")
            self.raises(NoKind, "value", "x", ask, book, prices, "x")
            ask(book, prices, "a")

    def test_a_book_without_rules(self):
        book = Book(["h", "l"], [], [], "h", 0)
        self.assertEqual([least_sum(book, {}, "h"), least_walk(book, {}, "h"), sink(book, {}, "h")], [0, [], None])
        self.assertEqual(floor(book, {}, "h")["h"], 0)
        self.raises(NoEnd, "name", "h", end_sum, book, {}, "h")
        self.assertIs(is_floor(book, {}, {"h": 0, "l": -7}), True)
        self.assertIs(is_roof(book, {}, {"h": 5, "l": -7}), True)


class Copies(Checks):
    def answers(self, book, prices):
        told = []
        for kind in sorted(book.kinds):
            told += [ask(book, prices, kind) for ask in OPEN]
            told += [ask(book, prices, kind) for ask in CLOSED if kind in ended(book)]
        return told

    def test_order_makes_no_difference(self):
        chance = random.Random(34)
        for book in BOOKS[::3]:
            for prices in (changes_of(book), {rule[0]: 0 for rule in book.rules}, drawn_prices(book, chance)):
                first = self.answers(book, prices)
                names = chance.sample(list(prices), len(prices))
                self.assertEqual(self.answers(turned(book, chance), {name: prices[name] for name in names}), first)

    def test_results_are_new_and_arguments_stay(self):
        for book in BOOKS[:60]:
            prices = changes_of(book)
            before = copy.deepcopy((prices, book.kinds, book.handles, book.rules))
            first, second = self.answers(book, prices), self.answers(book, prices)
            kept = copy.deepcopy(second)
            for told in first:
                for part in told if isinstance(told, tuple) else [told]:
                    if isinstance(part, list):
                        part.append("y")
                    if isinstance(part, dict):
                        part["y"] = 1
            self.assertEqual(second, kept)
            self.assertEqual(self.answers(book, prices), kept)
            self.assertEqual((prices, book.kinds, book.handles, book.rules), before)

    def test_parts_of_a_sink_and_a_lift_are_no_one_list(self):
        for ask, rules in ((sink, ["r a a -1"]), (lift, ["r a a 1", "s a 0"])):
            book, prices = priced(*rules)
            walk, _, ring = ask(book, prices, "a")
            self.assertIsNot(walk, ring)
            self.assertEqual((type(walk), type(ring)), (list, list))

    def test_judges_change_nothing(self):
        book = counting()
        prices = changes_of(book)
        value = ([], "h", ["copy", "drop"])
        before = copy.deepcopy((prices, value))
        is_sink(book, prices, "h", value), is_lift(book, prices, "h", value)
        table = {"h": -5, "l": 0}
        is_floor(book, prices, table), is_roof(book, prices, table)
        self.assertEqual((prices, value, table), (*before, {"h": -5, "l": 0}))

    def test_floors_have_the_kinds_that_come_of_the_kind(self):
        for book, prices, kind in itertools.islice(questions("kinds"), 300):
            table = floor(book, prices, kind)
            if table is not None:
                self.assertTrue(set(table) >= met(book, kind))
