"""Promises [3], [11], [19] and stage 6 of the interface: worths, and walks that show that there are none."""

import copy
import random
import unittest
from collections import Counter

from farhandles.books import Book
from farhandles.ways import ending
from farhandles.worths import are_two_walks, are_worths, two_walks, worths
from tests.judges import changes_of, cost, ended, lot_of, rules_of, two_walks_hold, worths_hold
from tests.samples import VALUES, counting, drawn_books, exchanged, ladder, some_books, turned

BOOKS = drawn_books(500, 5, "worths") + drawn_books(100, 10, "worths") + some_books(60, 6, 9, 4)


def book_of(*rules):
    """A book of rules told as "name kind outcome change", one letter a kind."""
    table = []
    for text in rules:
        name, kind, *outcome, change = text.split()
        table.append((name, kind, tuple("".join(outcome)), int(change)))
    kinds = sorted({kind for rule in table for kind in (rule[1], *rule[2])} | {"a"})
    return Book(kinds, [], table, kinds[0], 1)


class Checks(unittest.TestCase):
    def check(self, book, expected):
        """The worths, or two walks if None is expected."""
        self.assertEqual(worths(book), expected)
        if expected is not None:
            self.assertTrue(worths_hold(book, expected))
            self.assertIs(are_worths(book, worths(book)), True)
            self.assertIs(two_walks(book), None)
            return None
        told = two_walks(book)
        self.assertTrue(two_walks_hold(book, told), told)
        self.assertIs(are_two_walks(book, told), True)
        return told


class Worths(Checks):
    def test_example(self):
        book = Book(["h", "l"], ["h"], [("drop", "h", ("l", "l"), 0), ("come", "l", (), -1)], "h", 2)
        other = Book(["h"], ["h"], [("one", "h", (), -1), ("two", "h", (), -2)], "h", 1)
        self.assertEqual([worths(book), are_two_walks(other, ("h", ["one"], ["two"]))], [{"h": 2, "l": 1}, True])

    def test_worths(self):
        self.check(book_of("r a -1"), {"a": 1})
        self.check(book_of("r a 0"), {"a": 0})
        self.check(book_of("r a 7"), {"a": -7})
        self.check(book_of("r a b 5", "s b c -3", "t c 1"), {"a": -3, "b": 2, "c": -1})
        self.check(book_of("r a bbb 0", "s b c 0", "t c -1", "u a cc -1"), {"a": 3, "b": 1, "c": 1})
        self.check(book_of("r a aa 1", "s a -1"), {"a": 1})
        self.check(book_of("r a a 0", "s a -4"), {"a": 4})

    def test_kinds_that_do_not_end_have_none(self):
        self.check(book_of(), {})
        self.check(book_of("r a a 1", "s a aa 5"), {})
        self.check(book_of("r a b 1", "s b a 1", "t c -2"), {"c": 2})
        self.check(book_of("r a -1", "s a x 50", "t a ax -9", "u x x 4", "v x xa 3"), {"a": 1})

    def test_two_walks(self):
        kind, one, other = self.check(book_of("r a -1", "s a -2"), None)
        self.assertEqual((kind, sorted([one, other])), ("a", [["r"], ["s"]]))
        self.check(book_of("r a a 1", "s a 0"), None)
        self.check(book_of("r a aa 0", "s a -1"), None)
        self.check(book_of("r a bc 0", "s b -1", "t c dd 0", "u d -1", "v c bb -1"), None)
        self.check(book_of("r a bc 0", "s b -1", "t c dd 0", "u d -1", "v c bb 0"), {"a": 3, "b": 1, "c": 2, "d": 1})
        self.check(book_of("r a a 0", "s a a 0", "t a -9", "u b a 1", "v b -8"), {"a": 9, "b": 8})
        self.check(book_of("r a a 0", "s a a 0", "t a -9", "u b a 1", "v b -9"), None)

    def test_kinds_that_never_come_about_count_too(self):
        self.assertEqual(self.check(book_of("r a -1", "s z 0", "t z 1"), None)[0], "z")

    def test_large_changes(self):
        big = 10 ** 200
        self.check(book_of(f"r a bb {big}", f"s b {-big}"), {"a": big, "b": big})
        self.check(book_of(f"r a bb {big}", f"s b {-big}", f"t a {-big - 1}"), None)

    def test_many(self):
        told = Counter()
        for book in BOOKS:
            found = worths(book)
            told[found is None, bool(found)] += 1
            self.check(book, found)
            if found is not None:
                self.assertEqual(sorted(found), ending(book))
        self.assertTrue(min(told[True, False], told[False, True], told[False, False]) > 20, told)

    def test_worths_are_what_the_count_falls_by(self):
        chance = random.Random(61)
        for book in BOOKS:
            found = worths(book)
            for kind in found or {}:
                walk = ended_walk(book, kind, chance)
                self.assertEqual(lot_of(book, kind, walk), Counter())
                self.assertEqual(-cost(changes_of(book), walk), found[kind])

    def test_numbers_and_walks_much_larger_than_the_book(self):
        book = ladder(4, -1)
        self.check(book, {kind: 4 ** (9 - at) for at, kind in enumerate(book.kinds)})
        rules = [("other", "a", ("b",) * 4, 1)]
        told = self.check(Book(book.kinds, [], book.rules + rules, "a", 1), None)
        self.assertEqual([len(told[1]), len(told[2])], [(4 ** 10 - 1) // 3] * 2)
        book = ladder(2, -1, "abcdefghijklmnop")
        self.assertEqual(worths(book)["a"], 2 ** 15)


def ended_walk(book, kind, chance):
    """A walk by chance from a kind to the empty lot, which goes to an end after some rules."""
    ways = {}
    while set(ways) != ended(book):
        for each in ended(book) - set(ways):
            for name, lot in rules_of(book, each):
                if set(lot) <= set(ways):
                    ways.setdefault(each, (name, lot))
    walk, left = [], [kind]
    while left:
        each = left.pop()
        rules = [rule for rule in rules_of(book, each) if set(rule[1]) <= ended(book)]
        name, lot = chance.choice(rules) if len(walk) < 20 else ways[each]
        walk.append(name)
        left.extend(lot.elements())
    return walk


class Judges(Checks):
    def test_are_worths(self):
        book = book_of("r a bb 1", "s b -2", "t a b -1", "u x x 0", "v a x 9")
        for value, expected in [
                ({"a": 3, "b": 2}, True), ({"b": 2, "a": 3}, True), ({"a": 3, "b": 1}, False), ({"a": 2, "b": 2}, False),
                ({"a": 3}, False), ({"b": 2}, False), ({}, False), ({"a": 3, "b": 2, "x": 0}, False), ({"a": 3, "b": 2, "y": 0}, False),
                ({"a": 3, "b": None}, False), ({"a": 3, "b": "2"}, False), ([("a", 3), ("b", 2)], False), (None, False),
                ({"a": 3, "b": 2, None: 0}, False), ({"a": 3, 0: 2}, False), ({"a": 3, ("b",): 2}, False)]:
            self.assertIs(are_worths(book, value), expected, value)
            self.assertIs(are_worths(value=value, book=book), expected, value)
            self.assertIs(worths_hold(book, value), expected, value)
        book = book_of("r a -1", "s b 0")
        self.assertIs(are_worths(book, {"a": 1, "b": 0}), True)
        self.assertIs(are_worths(book, {"a": True, "b": 0}), False)
        self.assertIs(are_worths(book, {"a": 1, "b": False}), False)

    def test_are_worths_where_no_kind_ends(self):
        book = book_of("r a a 1")
        self.assertIs(are_worths(book, {}), True)
        for value in ({"a": 0}, {"a": -1}, [], (), None):
            self.assertIs(are_worths(book, value), False)

    def test_are_two_walks(self):
        book = book_of("r a bb 1", "s b -2", "t a -3", "u b -1", "v x 0", "w b x 0")
        for value, expected in [
                (("a", ["r", "s", "s"], ["r", "s", "u"]), True), (("a", ["r", "s", "s"], ["t"]), False),
                (("a", ["t"], ["r", "u", "u"]), True), (("b", ["s"], ["u"]), True), (("b", ["s"], ["s"]), False),
                (("b", ["w", "v"], ["u"]), True), (("b", ["w"], ["u"]), False), (("a", ["r", "s"], ["t"]), False),
                (("a", ["s"], ["u"]), False), (("b", [], ["u"]), False), (("b", ["s"], []), False), (("b", [], []), False),
                (["b", ["s"], ["u"]], False), (("b", ("s",), ["u"]), False), (("b", ["s"], ("u",)), False),
                (("b", ["s"], ["u"], 0), False), (("b", ["s"]), False), (("y", ["s"], ["u"]), False), ((None, ["s"], ["u"]), False),
                ((["b"], ["s"], ["u"]), False), (("b", ["s"], None), False), (("b", "s", "u"), False), (("b", ["s", "s"], ["u"]), False),
                (("b", [["s"]], ["u"]), False), (("b", ["s"], [None]), False), (None, False), ((), False),
                (("x", ["v"], ["v"]), False)]:
            self.assertIs(are_two_walks(book, value), expected, value)
            self.assertIs(are_two_walks(value=value, book=book), expected, value)
            self.assertIs(two_walks_hold(book, value), expected, value)

    def test_values_of_any_sort(self):
        for book in (counting(), book_of("r a a 1"), book_of("r h -1", "s h 0", "t l h 0")):
            for value in VALUES + [worths(book), two_walks(book), (1, 2, 3), ("h", "h", "h"), ("h", [], [])]:
                self.assertIs(are_worths(book, value), worths_hold(book, value), value)
                self.assertIs(are_two_walks(book, value), two_walks_hold(book, value), value)

    def test_one_thing_exchanged(self):
        chance = random.Random(62)
        told = Counter()
        for book in BOOKS:
            others = book.kinds + list(changes_of(book))
            for ask, judge, holds in ((worths, are_worths, worths_hold), (two_walks, are_two_walks, two_walks_hold)):
                found = ask(book)
                for _ in range(8 if found is not None else 0):
                    value = exchanged(found, chance, others)
                    expected = holds(book, value)
                    self.assertIs(judge(book, value), expected, (book.rules, value))
                    told[ask, expected] += 1
        # Worths are just one dict, so that one with a thing exchanged is hardly ever worths.
        self.assertGreater(told[worths, False], 500)
        self.assertTrue(min(told[two_walks, True], told[two_walks, False]) > 50, told)

    def test_what_is_told_for_other_books(self):
        found = [worths(book) for book in BOOKS[:40]] + [two_walks(book) for book in BOOKS[:40]]
        for book in BOOKS[:80]:
            for value in found:
                self.assertIs(are_worths(book, value), worths_hold(book, value))
                self.assertIs(are_two_walks(book, value), two_walks_hold(book, value))


class Copies(Checks):
    def test_order_makes_no_difference(self):
        chance = random.Random(63)
        for book in BOOKS:
            other = turned(book, chance)
            self.assertEqual([worths(other), two_walks(other)], [worths(book), two_walks(book)])

    def test_results_are_new_and_arguments_stay(self):
        for book in BOOKS[:120]:
            before = copy.deepcopy((book.kinds, book.rules, worths(book), two_walks(book)))
            found, told = worths(book), two_walks(book)
            self.assertEqual((type(found), type(told)), (dict, type(None)) if told is None else (type(None), tuple))
            if found is not None:
                found["y"] = 1
            else:
                self.assertIsNot(told[1], told[2])
                told[1].append("y")
                told[2].clear()
            self.assertEqual((book.kinds, book.rules, worths(book), two_walks(book)), before)

    def test_judges_change_nothing(self):
        book = book_of("r a bb 1", "s b -2")
        value, walks = {"a": 3, "b": 2}, ("a", ["r", "s", "s"], ["r", "s", "s"])
        are_worths(book, value), are_two_walks(book, walks)
        self.assertEqual((value, walks), ({"a": 3, "b": 2}, ("a", ["r", "s", "s"], ["r", "s", "s"])))

    def test_by_name(self):
        self.assertEqual(worths(book=counting()), worths(counting()))
        self.assertEqual(two_walks(book=counting()), two_walks(counting()))
