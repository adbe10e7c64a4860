"""Promises [3], [12], [19] and stage 7 of the interface: weights, bars, weighed books."""

import copy
import random
import unittest
from collections import Counter

from farhandles.books import Book
from farhandles.errors import BadUntold, BadWeights
from farhandles.verdicts import is_right
from farhandles.ways import about, alive, ending
from farhandles.weights import are_bars, are_weights, bars, weighed, weights
from farhandles.worths import are_worths
from tests.judges import bars_hold, weights_hold
from tests.samples import VALUES, counting, drawn_books, exchanged, some_books, turned

BOOKS = drawn_books(400, 5, "weights") + drawn_books(150, 10, "weights") + some_books(100, 6, 9, 4)


def book_of(rules, handles, kinds=""):
    """A book of rules told as "name kind outcome", one letter a kind."""
    table = []
    for text in rules:
        name, kind, *outcome = text.split()
        table.append((name, kind, tuple("".join(outcome)), 0))
    told = {kind for rule in table for kind in (rule[1], *rule[2])} | {*handles, *kinds}
    return Book(sorted(told), list(handles), table, sorted(told)[0], 1)


def names_of(book):
    return [rule[0] for rule in book.rules]


def drawn_untold(book, chance):
    """Some of the rules, in any order."""
    names = names_of(book)
    chance.shuffle(names)
    return names[:chance.randint(0, len(names))] if chance.random() < 0.9 else names


class Checks(unittest.TestCase):
    def check(self, book, untold, are_there):
        """Weights if they are there, or else bars; never both."""
        found, barring = weights(book, untold), bars(book, untold)
        case = (book.rules, book.handles, untold, found, barring)
        if are_there:
            self.assertTrue(weights_hold(book, untold, found), case)
            self.assertIs(are_weights(book, untold, found), True, case)
            self.assertIs(barring, None, case)
            return found
        self.assertTrue(bars_hold(book, untold, barring), case)
        self.assertIs(are_bars(book, untold, barring), True, case)
        self.assertIs(found, None, case)
        return barring


class Sides(Checks):
    def test_example(self):
        book = book_of(["copy h gg", "lose h", "drop g"], "hg")
        other = book_of(["copy h hh"], "h")
        self.assertIs(are_weights(book, ["copy"], {"h": 2, "g": 1}), True)
        self.assertIs(weights(other, ["copy"]), None)
        self.assertIs(are_bars(other, ["copy"], {"copy": -1}), True)

    def test_no_untold_rules(self):
        self.check(book_of(["copy h hh"], "h"), [], True)
        self.check(book_of(["copy h hh", "a a x", "b b"], ""), [], True)
        found = self.check(book_of(["a a h", "b b"], "h"), [], True)
        self.assertTrue(found["a"] >= 1 and found["h"] >= 1 and found["b"] >= 0)

    def test_nothing_alive_has_weights_always(self):
        book = book_of(["a a aa", "b b", "c c ab"], "")
        self.check(book, ["a", "b", "c"], True)
        self.assertIs(are_weights(book, ["a", "b", "c"], {"a": 0, "b": 0, "c": 0}), True)

    def test_parted(self):
        found = self.check(book_of(["a h gg", "b g lll"], "h"), ["a", "b"], True)
        self.assertEqual((found["h"], found["g"]), (6 * found["l"], 3 * found["l"]))
        found = self.check(book_of(["a h gll", "b g lll", "c k ghh"], "g"), ["b", "c", "a"], True)
        self.assertEqual((found["g"], found["h"], found["k"]), (3 * found["l"], 5 * found["l"], 13 * found["l"]))
        found = self.check(book_of(["a h g", "b g h"], "h"), ["a", "b"], True)
        self.assertEqual(found["h"], found["g"])
        found = self.check(book_of(["a h gg", "b h lll"], "h"), ["a", "b"], True)
        self.assertEqual(found["g"] * 2, found["l"] * 3)

    def test_only_untold_rules_count(self):
        self.check(book_of(["copy h hh", "drop h"], "h"), [], True)
        self.check(book_of(["copy h hh", "pass h h", "drop h"], "h"), ["pass"], True)
        self.check(book_of(["copy h hh", "pass h h", "drop h"], "h"), ["copy"], False)
        self.check(book_of(["copy h hh", "pass h h", "drop h"], "h"), ["drop"], False)
        self.check(book_of(["copy h hh", "pass h h", "drop h"], "h"), ["copy", "pass", "drop"], False)

    def test_forced_to_nought(self):
        # What an untold rule makes of nothing, or adds to what stays, has no weight.
        found = self.check(book_of(["a h hl", "b l"], "h"), ["a", "b"], True)
        self.assertEqual(found["l"], 0)
        self.check(book_of(["a h hl", "b l"], "hl"), ["a"], False)
        self.check(book_of(["a h hl", "b l h"], "h"), ["a"], False)
        self.check(book_of(["a h", "b l"], "h"), ["b"], True)
        self.check(book_of(["a h", "b l"], "h"), ["a"], False)
        found = self.check(book_of(["a h gl", "b g h"], "h"), ["a", "b"], True)
        self.assertEqual(found, {"h": found["g"], "g": found["g"], "l": 0})

    def test_forced_below_nought(self):
        self.check(book_of(["a h gl", "b g hl"], "hl"), ["a", "b"], False)
        self.check(book_of(["a h g", "b g hhl"], "h"), ["a", "b"], False)
        self.check(book_of(["a h gl", "b g hh"], "h"), ["a", "b"], False)
        self.check(book_of(["a h g", "b g ll", "c l h"], "h"), ["a", "b", "c"], False)
        self.check(book_of(["a h g", "b g ll", "c l h"], "h"), ["a", "b"], True)
        self.check(book_of(["a h ll", "b h lll"], "h"), ["a", "b"], False)
        self.check(book_of(["a h ll", "b g lll", "c h g"], "h"), ["a", "b", "c"], False)

    def test_bars_by_hand(self):
        found = self.check(book_of(["copy h hh"], "h"), ["copy"], False)
        self.assertTrue(list(found) == ["copy"] and found["copy"] < 0)
        found = self.check(book_of(["drop h"], "h"), ["drop"], False)
        self.assertTrue(list(found) == ["drop"] and found["drop"] > 0)
        found = self.check(book_of(["a h ll", "b h lll"], "h"), ["a", "b"], False)
        self.assertEqual(sorted(found), ["a", "b"])

    def test_numbers_grow_with_the_chain(self):
        kinds = "abcdefghij"
        rules = [f"{kind * 2} {kind} {after * 4}" for kind, after in zip(kinds, kinds[1:])]
        book = book_of(rules, "a")
        found = self.check(book, names_of(book), True)
        self.assertEqual([found[kind] for kind in kinds], [found["j"] * 4 ** (9 - at) for at in range(10)])
        self.check(book_of([*rules, "back j a"], "a"), names_of(book) + ["back"], False)
        self.check(book_of([*rules, "back j a"], "a"), names_of(book), True)

    def test_many(self):
        chance = random.Random(71)
        told = Counter()
        for book in BOOKS:
            for _ in range(3):
                untold = drawn_untold(book, chance)
                are_there = weights(book, untold) is not None
                self.check(book, untold, are_there)
                told[are_there, len(untold) > 1] += 1
        self.assertTrue(min(told[True, True], told[False, True], told[True, False]) > 100, told)

    def test_largest_books(self):
        chance = random.Random(72)
        kinds = list("abcdefghij")
        told = Counter()
        for _ in range(60):
            worth, slip = {kind: chance.randint(1, 9) for kind in kinds}, chance.choice([0, 0.01])
            rules, names = [], [one + other for one in "abcd" for other in "vwxyz"]
            while names:
                kind, outcome = chance.choice(kinds), tuple(chance.choice(kinds) for _ in range(chance.randint(0, 4)))
                if chance.random() < slip or worth[kind] == sum(worth[part] for part in outcome):
                    rules.append((names.pop(), kind, outcome, 0))
            book = Book(kinds, chance.sample(kinds, 3), rules, "a", 1)
            found = weights(book, names_of(book))
            self.check(book, names_of(book), found is not None)
            told[found is not None] += 1
            self.assertTrue(all(abs(number) < 10 ** 1000 for number in (found or bars(book, names_of(book))).values()))
        self.assertTrue(min(told[True], told[False]) > 5, told)

    def test_fewer_untold_rules_keep_weights(self):
        chance = random.Random(73)
        for book in BOOKS[:200]:
            untold = drawn_untold(book, chance)
            found = weights(book, untold)
            if found is not None and untold:
                self.assertIs(are_weights(book, untold[1:], found), True)
                self.check(book, untold[1:], True)


class Judges(Checks):
    def test_are_weights(self):
        book = book_of(["a h gg", "b g l", "c x"], "h")
        for value, expected in [
                ({"h": 2, "g": 1, "l": 0, "x": 0}, True), ({"h": 4, "g": 2, "l": 7, "x": 5}, True), ({"h": 2, "g": 2, "l": 0, "x": 0}, False),
                ({"x": 0, "l": 0, "g": 1, "h": 2}, True), ({"h": 0, "g": 0, "l": 0, "x": 0}, False), ({"h": -2, "g": -1, "l": 0, "x": 0}, False),
                ({"h": 2, "g": 1, "l": -1, "x": 0}, False), ({"h": 2, "g": 1, "l": 0, "x": -1}, False), ({"h": 2, "g": 1, "l": 0}, False),
                ({"h": 2, "g": 1, "x": 0}, False), ({"h": 2, "g": 1, "l": 0, "x": 0, "y": 0}, False), ({}, False),
                ({"h": 2, "g": True, "l": 0, "x": 0}, False), ({"h": 2, "g": 1, "l": False, "x": 0}, False), ({"h": 2, "g": 1, "l": None, "x": 0}, False),
                ({"h": 2, "g": 1, "l": 0, "x": "0"}, False), ({"h": 2, "g": 1, "l": 0, None: 0}, False), ({"h": 2, "g": 1, "l": 0, ("x",): 0}, False),
                ([("h", 2), ("g", 1), ("l", 0), ("x", 0)], False), (["h", "g", "l", "x"], False), ("hglx", False), (None, False)]:
            self.assertIs(are_weights(book, ["a"], value), expected, value)
            self.assertIs(are_weights(value=value, untold=["a"], book=book), expected, value)
            self.assertIs(weights_hold(book, ["a"], value), expected, value)
        self.assertIs(are_weights(book, [], {"h": 1, "g": 0, "l": 0, "x": 0}), True)
        self.assertIs(are_weights(book, ["a", "b"], {"h": 2, "g": 1, "l": 0, "x": 0}), False)
        self.assertIs(are_weights(book, ["b", "a"], {"h": 2, "g": 1, "l": 1, "x": 0}), True)
        self.assertIs(are_weights(book, ["c"], {"h": 1, "g": 0, "l": 0, "x": 1}), False)

    def test_all_alive_kinds_have_a_weight(self):
        book = book_of(["a a b", "b b h", "c c"], "h")
        self.assertIs(are_weights(book, [], {"a": 1, "b": 1, "h": 1, "c": 0}), True)
        for kind in "abh":
            value = {"a": 1, "b": 1, "h": 1, "c": 0}
            value[kind] = 0
            self.assertIs(are_weights(book, [], value), False)

    def test_are_bars(self):
        book = book_of(["a h hl", "b l ll", "c x"], "h")
        for value, expected in [
                ({"a": 1}, False), ({"a": 0}, False), ({"a": -1}, False), ({}, False)]:
            self.assertIs(are_bars(book, ["a"], value), expected, value)
        book = book_of(["copy h hh", "pass h h", "send h l", "come l"], "h")
        for untold, value, expected in [
                (["copy"], {"copy": -1}, True), (["copy"], {"copy": -9}, True), (["copy"], {"copy": 1}, False), (["copy"], {"copy": 0}, False),
                (["pass"], {"pass": 1}, False), (["pass"], {"pass": 0}, False), (["pass"], {"pass": -1}, False),
                (["copy", "pass"], {"pass": 0, "copy": -1}, True), (["copy", "pass"], {"pass": 5, "copy": -1}, True), (["copy", "pass"], {"copy": -1}, False),
                (["copy"], {"copy": -1, "pass": 0}, False), (["copy"], {"copy": -1, "y": 0}, False), (["copy"], {}, False), ([], {}, False),
                (["send"], {"send": 1}, False), (["send", "come"], {"send": 1, "come": 1}, True), (["send", "come"], {"send": 1, "come": 2}, True),
                (["send", "come"], {"send": 2, "come": 1}, False), (["send", "come"], {"send": 0, "come": 1}, False),
                (["copy"], {"copy": True}, False), (["copy"], {"copy": None}, False), (["copy"], {"copy": "-1"}, False), (["copy"], {None: -1}, False),
                (["copy"], [("copy", -1)], False), (["copy"], [-1], False), (["copy"], -1, False), (["copy"], None, False), (["copy"], {("copy",): -1}, False)]:
            self.assertIs(are_bars(book, untold, value), expected, (untold, value))
            self.assertIs(are_bars(value=value, untold=untold, book=book), expected, (untold, value))
            self.assertIs(bars_hold(book, untold, value), expected, (untold, value))

    def test_bars_ask_for_an_alive_kind(self):
        rules = ["a a b", "b b", "c h"]
        self.assertIs(are_bars(book_of(rules, ""), ["a", "b"], {"a": 1, "b": 1}), False)
        self.assertIs(are_bars(book_of(rules, "h"), ["a", "b"], {"a": 1, "b": 1}), False)
        self.assertIs(are_bars(book_of(rules, "a"), ["a", "b"], {"a": 1, "b": 1}), True)
        self.assertIs(are_bars(book_of(rules, "b"), ["a", "b"], {"a": 1, "b": 2}), True)
        self.assertIs(are_bars(book_of(rules, "b"), ["a", "b"], {"a": 0, "b": 1}), True)

    def test_values_of_any_sort(self):
        for book, untold in ((counting(), ["copy"]), (counting(), []), (book_of(["a a"], ""), ["a"]), (book_of(["a a"], "a"), ["a"])):
            for value in VALUES + [weights(book, untold), bars(book, untold), untold, {"h": "h", "l": 1}]:
                self.assertIs(are_weights(book, untold, value), weights_hold(book, untold, value), value)
                self.assertIs(are_bars(book, untold, value), bars_hold(book, untold, value), value)

    def test_one_thing_exchanged(self):
        chance = random.Random(74)
        told = Counter()
        for book in BOOKS:
            untold = drawn_untold(book, chance)
            others = book.kinds + names_of(book)
            for ask, judge, holds in ((weights, are_weights, weights_hold), (bars, are_bars, bars_hold)):
                found = ask(book, untold)
                for _ in range(10 if found is not None else 0):
                    value = exchanged(found, chance, others)
                    expected = holds(book, untold, value)
                    self.assertIs(judge(book, untold, value), expected, (book.rules, untold, value))
                    told[ask, expected] += 1
        self.assertTrue(min(told.values()) > 50 and len(told) == 4, told)

    def test_each_number_one_greater_or_less(self):
        chance = random.Random(75)
        told = Counter()
        for book in BOOKS[:250]:
            untold = drawn_untold(book, chance)
            for ask, judge, holds in ((weights, are_weights, weights_hold), (bars, are_bars, bars_hold)):
                found = ask(book, untold) or {}
                for key in found:
                    for step in (-1, 1):
                        value = {**found, key: found[key] + step}
                        expected = holds(book, untold, value)
                        self.assertIs(judge(book, untold, value), expected, (book.rules, untold, value))
                        told[ask, expected] += 1
        self.assertTrue(min(told.values()) > 50 and len(told) == 4, told)

    def test_what_is_told_for_other_lists(self):
        chance = random.Random(76)
        for book in BOOKS[:80]:
            lists = [drawn_untold(book, chance) for _ in range(5)]
            found = [ask(book, untold) for untold in lists for ask in (weights, bars)]
            for untold in lists:
                for value in found:
                    self.assertIs(are_weights(book, untold, value), weights_hold(book, untold, value))
                    self.assertIs(are_bars(book, untold, value), bars_hold(book, untold, value))


class Weighed(unittest.TestCase):
    def test_example(self):
        book = book_of(["copy h gg", "lose h", "drop g"], "hg")
        told = weighed(book, {"h": 2, "g": 1})
        self.assertEqual(told.rules, [("copy", "h", ("g", "g"), 0), ("lose", "h", (), -2), ("drop", "g", (), -1)])

    def test_all_else_stays_in_its_order(self):
        book = Book(("x", "h", "a"), ["h", "a"], [("z", "h", ("a", "x", "a"), 5), ("b", "a", (), 7), ("y", "x", ("x",), -2)], "h", -3)
        told = weighed(book, {"a": 3, "x": 10, "h": 0})
        self.assertIs(type(told), Book)
        self.assertEqual((told.kinds, told.handles, told.start, told.amount), (["x", "h", "a"], ["h", "a"], "h", 0))
        self.assertEqual(told.rules, [("z", "h", ("a", "x", "a"), 16), ("b", "a", (), -3), ("y", "x", ("x",), 0)])
        told = weighed(numbers={"a": 3, "x": 10, "h": 12}, book=book)
        self.assertEqual((told.amount, [rule[3] for rule in told.rules]), (12, [4, -3, 0]))
        self.assertEqual(weighed(told, {"a": 3, "x": 10, "h": 12}), told)

    def test_alive_kinds_may_have_no_weight(self):
        told = weighed(counting(), {"h": 0, "l": 0})
        self.assertEqual((told.amount, [rule[3] for rule in told.rules]), (0, [0, 0, 0]))

    def test_large_numbers(self):
        big = 10 ** 300
        told = weighed(counting(), {"h": big, "l": big + 1})
        self.assertEqual((told.amount, [rule[3] for rule in told.rules]), (big, [2 * big + 1, -big, -big - 1]))

    def test_bad_weights(self):
        book = counting()
        for value in [
                {"h": 1}, {"h": 1, "l": 0, "x": 0}, {}, {"h": 1, "l": -1}, {"h": -1, "l": 0}, {"h": True, "l": 0}, {"h": 1, "l": False},
                {"h": 1, "l": None}, {"h": 1, "l": "0"}, {"h": 1, None: 0}, {"h": 1, ("l",): 0}, {"h": 1, "x": 0}, {"h": 1, 0: 0},
                [("h", 1), ("l", 0)], ["h", "l"], ("h", "l"), "hl", *VALUES]:
            with self.assertRaises(BadWeights) as caught:
                weighed(book, value)
            self.assertIs(caught.exception.value, value)

    def test_untold_rules_change_nothing_and_the_book_is_right(self):
        chance = random.Random(77)
        told = Counter()
        for book in BOOKS:
            untold = drawn_untold(book, chance)
            found = weights(book, untold)
            if found is not None:
                other = weighed(book, found)
                self.assertEqual({other.rule_named(name)[3] for name in untold} - {0}, set())
                ends = set(about(book)) <= set(ending(book))
                self.assertIs(is_right(other), ends)
                self.assertEqual((other.kinds, other.handles, other.start), (book.kinds, book.handles, book.start))
                self.assertEqual([rule[:3] for rule in other.rules], [rule[:3] for rule in book.rules])
                told[ends] += 1
                if set(ending(book)) == set(book.kinds):
                    self.assertIs(are_worths(other, found), True)
                    told["worths"] += 1
        self.assertTrue(min(told[True], told[False], told["worths"]) > 50, told)


class Copies(Checks):
    def test_bad_untold(self):
        book = counting()
        calls = [weights, bars, lambda *told: are_weights(*told, {}), lambda *told: are_bars(*told, None)]
        bad = [
            ("copy",), ("copy", "drop"), (), {}, {"copy": 1}, "copy", None, 0, True, ["copy", "copy"], ["drop", "copy", "drop"],
            ["copy", "h"], ["zz"], ["copy", None], [["copy"]], [("copy",)], [True], [0], ["Copy"], [""], ["copy "],
            ["copy", "drop", "come", "copy"], ["copy", "drop", "come", "x"], [[]], [{}]]
        for value in bad + [value for value in VALUES if value != []]:
            for call in calls:
                with self.assertRaises(BadUntold) as caught:
                    call(book, value)
                self.assertIs(caught.exception.value, value)
        for value in ([], ["copy"], ["come", "copy", "drop"]):
            for call in calls:
                call(book, value)

    def test_orders_make_no_difference(self):
        chance = random.Random(78)
        for book in BOOKS:
            untold = drawn_untold(book, chance)
            other, names = turned(book, chance), chance.sample(untold, len(untold))
            self.assertEqual([weights(other, names), bars(other, names)], [weights(book, untold), bars(book, untold)])

    def test_results_are_new_and_arguments_stay(self):
        chance = random.Random(79)
        for book in BOOKS[:150]:
            untold = drawn_untold(book, chance)
            for ask in (weights, bars):
                before = copy.deepcopy((book.kinds, book.rules, untold, ask(book, untold)))
                found = ask(untold=untold, book=book)
                if found is not None:
                    self.assertEqual({type(found), *map(type, found.values())} - {int}, {dict})
                    found.clear()
                    found["y"] = 1
                self.assertEqual((book.kinds, book.rules, untold, ask(book, untold)), before)

    def test_judges_and_weighed_change_nothing(self):
        book, value, barring, untold = counting(), {"h": 2, "l": 1}, {"copy": -1}, ["copy"]
        are_weights(book, untold, value), are_bars(book, untold, barring)
        other = weighed(book, value)
        value["h"] = 9
        self.assertEqual((other.amount, book, value, barring, untold), (2, counting(), {"h": 9, "l": 1}, {"copy": -1}, ["copy"]))

    def test_alive_kinds_are_those_of_the_book(self):
        for book in BOOKS:
            found = weights(book, [])
            self.assertTrue(all(found[kind] >= 1 for kind in alive(book)))
