"""Promises [3], [4], [19] and stage 1 of the interface: names and books."""

import copy
import itertools
import random
import unittest

from farhandles.books import Book, is_name
from farhandles.errors import (
    BadCount, BadHandles, BadKinds, BadRule, BadRules, BadStart, NamedTwice, NoRule,
)
from tests.samples import VALUES, counting, is_plain_name, nested, some_books, turned

RULES = [("copy", "h", ("h", "h", "l"), 0), ("drop", "h", (), -1), ("come", "l", (), 1)]
PARTS = {"kinds": ["h", "l"], "handles": ["h"], "rules": RULES, "start": "h", "count": 1}


def book_with(**other):
    """The book of DOC.md with other parts."""
    return Book(**{**PARTS, **other})


def long_names(many):
    letters = "abcdefghijklmnopqrstuvwxyz"
    return ["".join(signs) for signs in itertools.islice(itertools.product(letters, repeat=4), many)]


class Raises(unittest.TestCase):
    def check(self, error, argument, expected, call, *args, **more):
        """The call raises just this error with the expected argument itself."""
        with self.assertRaises(error) as caught:
            call(*args, **more)
        self.assertIs(type(caught.exception), error)
        kept = getattr(caught.exception, argument)
        self.assertIs(type(kept), type(expected))
        if isinstance(expected, (list, dict, tuple)):
            self.assertIs(kept, expected)
        else:
            self.assertEqual(kept, expected)


class Names(unittest.TestCase):
    def test_names(self):
        for value in ["a", "z", "h", "m", "ab", "zz", "abcdefgh", "stuvwxyz", "ijklmnop", "aaaaaaaa", "none"]:
            self.assertIs(is_name(value), True, value)
        for letter in "abcdefghijklmnopqrstuvwxyz":
            self.assertIs(is_name(letter), True, letter)
            self.assertIs(is_name(letter * 8), True, letter)

    def test_length(self):
        for length in range(30):
            self.assertIs(is_name("q" * length), 1 <= length <= 8, length)

    def test_other_signs(self):
        for sign in [chr(code) for code in range(32, 127)] + ["\n", "\t", "\u00e9", "\u00df", "\u0430"]:
            good = "a" <= sign <= "z"
            for text in (sign, sign + "h", "h" + sign, "h" + sign + "l", "hhhhhhh" + sign, sign + "hhhhhhh"):
                self.assertIs(is_name(text), good, repr(text))

    def test_values_of_all_sorts(self):
        for value in VALUES:
            self.assertIs(is_name(value), is_plain_name(value), value)
        for value in [b"h", 1.5, ("h",), ["h"], {"h": 1}, list("abc"), tuple("abc"), {"a": 1, "b": 2}]:
            self.assertIs(is_name(value), False, value)

    def test_by_name(self):
        self.assertIs(is_name(value="h"), True)
        self.assertIs(is_name(value="h h"), False)


class Books(unittest.TestCase):
    def test_example(self):
        book = Book(["h", "l"], ["h"], RULES, "h", 1)
        told = [book.kinds, book.rule_named("drop"), book == Book(("l", "h"), ("h",), book.rules[::-1], "h", 1)]
        self.assertEqual(told, [["h", "l"], ("drop", "h", (), -1), True])

    def test_properties(self):
        book = Book(["x", "h", "l"], ["l", "h"], RULES, "l", -7)
        self.assertEqual(book.kinds, ["x", "h", "l"])
        self.assertEqual(book.handles, ["l", "h"])
        self.assertEqual(book.rules, RULES)
        self.assertEqual(book.start, "l")
        self.assertEqual(book.amount, -7)
        self.assertIs(type(book.amount), int)

    def test_tuples_or_lists(self):
        for kinds, handles, rules in itertools.product((list, tuple), repeat=3):
            book = Book(kinds(["l", "h"]), handles(["h", "l"]), rules(RULES), "h", 1)
            self.assertEqual((book.kinds, book.handles, book.rules), (["l", "h"], ["h", "l"], RULES))

    def test_by_position_and_by_name(self):
        book = Book(kinds=["h", "l"], handles=["h"], rules=RULES, start="h", count=1)
        self.assertEqual(book, Book(["h", "l"], ["h"], RULES, "h", 1))
        self.assertEqual(book.rule_named(name="come"), ("come", "l", (), 1))

    def test_least_book(self):
        for empty in ([], ()):
            book = Book(["a"], empty, empty, "a", 0)
            told = [book.kinds, book.handles, book.rules, book.start, book.amount]
            self.assertEqual(told, [["a"], [], [], "a", 0])

    def test_order_is_kept(self):
        for book in some_books(40, 8, 8, 3):
            again = Book(tuple(book.kinds), tuple(book.handles), tuple(book.rules), book.start, book.amount)
            self.assertEqual((again.kinds, again.handles, again.rules), (book.kinds, book.handles, book.rules))
        rules = [(name, "h", (), 0) for name in ("z", "a", "m", "b")]
        book = Book(["z", "h", "a"], ["z", "a", "h"], rules, "h", 0)
        self.assertEqual((book.kinds, book.handles, book.rules), (["z", "h", "a"], ["z", "a", "h"], rules))

    def test_numbers_of_any_size(self):
        for number in (0, -1, 10 ** 60, -10 ** 60, 10 ** 3000, -10 ** 3000):
            book = book_with(rules=[("drop", "h", (), number)], count=number)
            self.assertTrue(book.amount == number and book.rules[0][3] == number)
            self.assertTrue(book == book_with(rules=[("drop", "h", (), number)], count=number))
            self.assertFalse(book == book_with(rules=[("drop", "h", (), number + 1)], count=number))
            self.assertFalse(book == book_with(rules=[("drop", "h", (), number)], count=number + 1))

    def test_any_number_of_kinds_rules_and_parts(self):
        names = long_names(20000)
        rules = [(name, name, (name, names[0]), 1) for name in names] + [("much", "aaaa", tuple(names), 0)]
        book = Book(names, names[::2], rules, names[-1], 1)
        self.assertEqual((book.kinds, book.handles, book.rules), (names, names[::2], rules))
        self.assertEqual(book.rule_named(names[777]), rules[777])
        self.assertTrue(book == Book(names[::-1], names[::2][::-1], rules[::-1], names[-1], 1))
        self.assertFalse(book == Book(names, names[::2], rules[:-1], names[-1], 1))

    def test_kind_and_rule_may_share_a_name_and_a_rule_may_stand_twice_under_two_names(self):
        rules = [("h", "h", ("l",), 0), ("l", "h", ("l",), 0)]
        book = book_with(rules=rules)
        self.assertEqual((book.rule_named("h"), book.rule_named("l")), tuple(rules))

    def test_kinds_several_times_in_an_outcome(self):
        rules = [("copy", "h", ("l", "h", "l", "l", "h", "h", "h"), 0)]
        self.assertEqual(book_with(rules=rules).rules, rules)


class Wrong(Raises):
    def test_kinds(self):
        wrong = [value for value in VALUES if value not in (["h"], ("h",), ("h", "l"))]
        wrong += [["h", "l", "h"], ("h", "h"), ["h", "L"], ["h", ""], ["h", "abcdefghi"], ["h", None], ["h", "l", ["h"]],
                  ["h", ("l",)], ["h", True], ["h", "l "], "h", "hl", {"h": 1, "l": 2}, [["h", "l"]], ["h", {}]]
        for value in wrong:
            with self.subTest(repr(value)[:60]):
                self.check(BadKinds, "value", value, Book, value, ["h"], RULES, "h", 1)

    def test_handles(self):
        wrong = [value for value in VALUES if value not in ([], (), ["h"], ("h",), ("h", "l"))]
        wrong += [["h", "h"], ("l", "l"), ["h", "x"], ["x"], ["h", "l", "h"], [""], ["H"], ["h", None], ["h", ["l"]],
                  [("h",)], ["hl"], "h", "hl", {"h": 1}, ["h", {}], ["h", 1], [True]]
        for value in wrong:
            with self.subTest(repr(value)[:60]):
                self.check(BadHandles, "value", value, Book, ["h", "l"], value, RULES, "h", 1)

    def test_rules_that_are_no_list(self):
        for value in VALUES:
            if not isinstance(value, (list, tuple)):
                with self.subTest(repr(value)[:60]):
                    self.check(BadRules, "value", value, book_with, rules=value)
        for value in ("h", {("drop", "h", (), -1): True}, {0: ("drop", "h", (), -1)}):
            self.check(BadRules, "value", value, book_with, rules=value)

    def test_rules_with_something_that_is_none(self):
        wrong = [value for value in VALUES if value != ("copy", "h", (), 0)]
        for at in range(4):
            for value in VALUES + ["x", ("x",), ("h", "x"), ("h", ["h"]), (("h",),), ("h", None)]:
                good = [is_plain_name(value), value in ("h", "l"), value in ((), ("h",), ("h", "l")), type(value) is int]
                if not good[at]:
                    rule = ["copy", "h", ("h",), 0]
                    rule[at] = value
                    wrong.append(tuple(rule))
        wrong += [
            ["copy", "h", ("h",), 0], ("copy", "h", ("h",)), ("copy", "h", ("h",), 0, 0), ("copy", "h", ["h"], 0),
            ("copy", "h", "h", 0), ("copy", "h", "", 0), ("copy", "h", {"h": 1}, 0), ("copy", "h", ("hl",), 0),
            ("copy", "h", ("h", "l", "x"), 0), ("copy", "h", ("x", "h", "l"), 0), ("h", "copy", ("h",), 0),
            ("copy", "h", ("h",), True), ("copy", "h", ("h",), False), ("copy", "h", ("h",), "0"),
            ("copy", "h", ("h",), None), ("copy", "h", ("h",), (0,)), ("copy", "h", ("h",), 1.0),
            ("copies of", "h", ("h",), 0), ("copycopyc", "h", ("h",), 0), ("", "h", ("h",), 0), ("Copy", "h", ("h",), 0),
            "copy", ("copy",), (("copy", "h", ("h",), 0),), [("copy", "h", ("h",), 0)],
        ]
        for value in wrong:
            with self.subTest(repr(value)[:60]):
                for number in range(3):
                    rules = [("one", "h", (), 0), ("two", "h", ("l",), 1), ("three", "l", (), 2)]
                    rules[number] = value
                    self.check(BadRule, "number", number, book_with, rules=rules)
                    self.check(BadRule, "number", number, book_with, rules=tuple(rules))

    def test_first_of_several_that_are_no_rules(self):
        good = [("one", "h", (), 0), ("two", "h", ("l",), 1), ("three", "l", (), 2), ("four", "l", (), 2)]
        for size in (1, 2, 3, 4):
            for places in itertools.combinations(range(4), size):
                rules = [None if at in places else rule for at, rule in enumerate(good)]
                self.check(BadRule, "number", places[0], book_with, rules=rules)

    def test_name_twice(self):
        def rules_with(names):
            return [(name, "hl"[at % 2], ("l",) * at, at) for at, name in enumerate(names)]

        for names, twice in [("aa", "a"), ("aba", "a"), ("abb", "b"), ("abcba", "b"), ("abcab", "a"), ("aaa", "a"),
                             ("zabbz", "b"), ("abcdd", "d")]:
            self.check(NamedTwice, "name", twice, book_with, rules=rules_with(names))
            self.check(NamedTwice, "name", twice, book_with, rules=tuple(rules_with(names)))
        self.check(NamedTwice, "name", "drop", book_with, rules=[RULES[1], RULES[1]])
        self.check(BadRule, "number", 3, book_with, rules=rules_with("aba") + [None])
        self.check(BadRule, "number", 2, book_with, rules=rules_with("aa") + [("a", "x", (), 0)])

    def test_start(self):
        for value in VALUES + ["x", "hl", "copy", "L", ["h"], ("h",), {"h": 1}, ""]:
            with self.subTest(repr(value)[:60]):
                self.check(BadStart, "value", value, book_with, start=value)

    def test_a_handle_that_is_no_kind_and_a_kind_that_is_no_handle(self):
        self.assertEqual(book_with(start="l").start, "l")
        handles = ["l", "x"]
        self.check(BadHandles, "value", handles, book_with, handles=handles)

    def test_count(self):
        for value in VALUES + [1.0, "1", (1,), [1], "h"]:
            if type(value) is not int:
                with self.subTest(repr(value)[:60]):
                    self.check(BadCount, "value", value, book_with, count=value)

    def test_several_at_once(self):
        twice, late = ["h", "h"], ["x"]
        faults = [
            (BadKinds, "value", twice, {"kinds": twice}), (BadHandles, "value", late, {"handles": late}),
            (BadRules, "value", None, {"rules": None}), (BadRule, "number", 4, {"rules": [*RULES, RULES[0], ()]}),
            (NamedTwice, "name", "come", {"rules": [*RULES, RULES[2], RULES[0]]}),
            (BadStart, "value", "x", {"start": "x"}), (BadCount, "value", True, {"count": True}),
        ]
        for size in range(1, len(faults) + 1):
            for some in itertools.combinations(faults, size):
                parts = {}
                for _, _, _, part in some[::-1]:
                    parts.update(part)
                error, argument, expected, _ = some[0]
                with self.subTest(sorted(parts)):
                    self.check(error, argument, expected, book_with, **parts)

    def test_what_is_wrong_is_not_changed(self):
        for parts in ({"kinds": ["h", "h", ["l"]]}, {"handles": ["l", "x"]}, {"rules": [*RULES, ["x"]]}):
            before = copy.deepcopy(parts)
            self.assertRaises(ValueError, book_with, **parts)
            self.assertEqual(parts, before)


class Equality(unittest.TestCase):
    def differ(self, book, other):
        self.assertIs(book == other, False)
        self.assertIs(other == book, False)
        self.assertIs(book != other, True)
        self.assertIs(other != book, True)

    def same(self, book, other):
        self.assertIs(book == other, True)
        self.assertIs(other == book, True)
        self.assertIs(book != other, False)

    def test_order_turned(self):
        chance = random.Random(4)
        for book in some_books(60, 6, 8, 3):
            self.same(book, book)
            for _ in range(5):
                self.same(book, turned(book, chance))

    def test_one_thing_changed(self):
        book = Book(["h", "l", "x"], ["h", "x"], RULES, "h", 1)
        others = [
            Book(["h", "l", "x", "y"], ["h", "x"], RULES, "h", 1), Book(["h", "l", "x"], ["h"], RULES, "h", 1),
            Book(["h", "l", "x"], ["h", "l"], RULES, "h", 1), Book(["h", "l", "x"], ["h", "x", "l"], RULES, "h", 1),
            Book(["h", "l", "x"], [], RULES, "h", 1), Book(["h", "l", "x"], ["h", "x"], RULES, "l", 1),
            Book(["h", "l", "x"], ["h", "x"], RULES, "h", 2), Book(["h", "l", "x"], ["h", "x"], RULES, "h", -1),
            Book(["h", "l", "x"], ["h", "x"], RULES[1:], "h", 1), Book(["h", "l", "x"], ["h", "x"], [], "h", 1),
            Book(["h", "l", "x"], ["h", "x"], [*RULES, ("more", "h", (), 0)], "h", 1),
        ]
        for rule in [("cope", "h", ("h", "h", "l"), 0), ("copy", "l", ("h", "h", "l"), 0), ("copy", "h", ("h", "h"), 0),
                     ("copy", "h", ("h", "l"), 0), ("copy", "h", ("h", "h", "h", "l"), 0), ("copy", "h", (), 0),
                     ("copy", "h", ("h", "h", "x"), 0), ("copy", "h", ("h", "h", "l"), 1),
                     ("copy", "h", ("h", "h", "l"), -1), ("copy", "h", ("l", "h", "h"), 0)]:
            others.append(Book(["h", "l", "x"], ["h", "x"], [rule, *RULES[1:]], "h", 1))
        others.append(Book(["h", "l", "x"], ["h", "x"], [("copy", *RULES[1][1:]), ("drop", *RULES[0][1:]), RULES[2]], "h", 1))
        for one, other in itertools.combinations([book, *others], 2):
            self.differ(one, other)
        self.differ(Book(["h", "l"], ["h"], [], "h", 1), Book(["h", "m"], ["h"], [], "h", 1))

    def test_no_other_value_is_equal(self):
        book = counting()
        parts = [book.kinds, book.handles, book.rules, book.start, book.amount]
        for other in VALUES + [parts, tuple(parts), PARTS, dict(PARTS), book.kinds, book.rules, 1, "h", object(), Book]:
            if not isinstance(other, Book):
                self.differ(book, other)

    def test_among_others(self):
        self.assertIn(counting(), [None, "h", book_with()])
        self.assertNotIn(counting(), [None, "h", book_with(count=2)])


class RuleNamed(Raises):
    def test_each_rule(self):
        for book in some_books(40, 6, 8, 3):
            for rule in book.rules:
                self.assertEqual(book.rule_named(rule[0]), rule)

    def test_no_rule(self):
        book = counting()
        for value in VALUES + ["h", "l", "cop", "copyy", "Copy", "drop ", ("drop",), ["drop"], RULES[1], 0, 1]:
            with self.subTest(repr(value)[:60]):
                self.check(NoRule, "value", value, book.rule_named, value)
                self.check(NoRule, "value", value, book.rule_named, name=value)
        self.check(NoRule, "value", "drop", book_with(rules=[]).rule_named, "drop")


class Copies(unittest.TestCase):
    def told(self, book):
        return copy.deepcopy([book.kinds, book.handles, book.rules, book.start, book.amount])

    def test_arguments_are_copied(self):
        kinds, handles, rules = ["h", "l"], ["h"], list(RULES)
        book = Book(kinds, handles, rules, "h", 1)
        self.assertEqual((kinds, handles, rules), (["h", "l"], ["h"], RULES))
        before = self.told(book)
        kinds.append("x")
        kinds[0] = "y"
        handles.clear()
        rules.pop()
        rules[0] = None
        self.assertEqual(self.told(book), before)
        self.assertEqual(book, counting())
        self.assertEqual(book.rule_named("come"), RULES[2])

    def test_properties_are_new_lists(self):
        book = Book(["h", "l", "x"], ["h", "l"], RULES, "h", 1)
        before = self.told(book)
        for name in ("kinds", "handles", "rules"):
            told = getattr(book, name)
            self.assertIs(type(told), list)
            self.assertIsNot(told, getattr(book, name))
            told.reverse()
            told.append("y")
            self.assertEqual(self.told(book), before)
            told.clear()
            self.assertEqual(self.told(book), before)
        self.assertEqual(book, Book(["h", "l", "x"], ["h", "l"], RULES, "h", 1))
        self.assertEqual(book.rule_named("drop"), RULES[1])

    def test_properties_are_not_assigned(self):
        book = counting()
        for name in ("kinds", "handles", "rules", "start", "amount"):
            with self.assertRaises(AttributeError):
                setattr(book, name, getattr(book, name))

    def test_a_call_that_raises_changes_nothing(self):
        book = counting()
        before = self.told(book)
        for value in VALUES:
            self.assertRaises(NoRule, book.rule_named, value)
        self.assertEqual(self.told(book), before)

    def test_deep_values(self):
        for sort in (list, tuple, dict):
            value = nested(400, sort)
            self.assertIs(is_name(value), False)
            self.assertRaises(BadStart, book_with, start=value)
            self.assertRaises(NoRule, counting().rule_named, value)
