"""Promises [3], [5], [6], [19] and stage 2 of the interface: walks and runs, done rule by rule."""

import copy
import itertools
import random
import unittest

from farhandles.books import Book
from farhandles.errors import HandleError, NoKind, NotDone
from farhandles.runs import is_run, is_walk, mark, run_stands, stands
from tests.judges import lot_of, mark_of, rules_of
from tests.samples import VALUES, counting, drawn_books, exchanged, ladder, some_books, turned

BOOKS = drawn_books(150, 4, "runs") + some_books(50, 4, 6, 3)
NO_NAMES = [
    None, True, False, 0, 1, -1, "", "h", "l", "cop", "copyy", "Copy", "drop ", " drop", ("copy",), ["copy"], {"copy": 1},
    (), [], {}, ("copy", "h", ("h", "h", "l"), 0), "zz",
]


def drawn_walk(book, kind, chance, most):
    """A walk from a kind by chance."""
    lot, walk = [kind], []
    for _ in range(chance.randint(0, most)):
        rules = [rule for rule in book.rules if rule[1] in lot]
        if not rules:
            break
        name, source, outcome, _ = chance.choice(rules)
        lot.remove(source)
        lot.extend(outcome)
        walk.append(name)
    return walk


def stands_by_prefixes(book, kind, walk, total):
    """What stands should tell, each lot counted from the beginning on."""
    changes = {rule[0]: rule[3] for rule in book.rules}
    told = []
    for number in range(len(walk) + 1):
        done = walk[:number]
        lot = tuple(sorted(lot_of(book, kind, done).items()))
        told.append((total + sum(changes[name] for name in done), lot))
    return told


class Stands(unittest.TestCase):
    def test_example(self):
        book = counting()
        told = [run_stands(book, ["copy", "drop"]), mark(book, ["copy", "drop"]), mark(book, ["drop"]),
                is_walk(book, "l", ["come"])]
        stood = [(1, (("h", 1),)), (1, (("h", 2), ("l", 1))), (0, (("h", 1), ("l", 1)))]
        self.assertEqual(told, [stood, "early", "going", True])

    def test_empty_walks(self):
        book = counting()
        self.assertEqual(stands(book, "h", []), [(0, (("h", 1),))])
        self.assertEqual(stands(book, "l", []), [(0, (("l", 1),))])
        self.assertEqual(run_stands(book, []), [(1, (("h", 1),))])
        self.assertEqual(run_stands(Book(["x"], [], [], "x", -7), []), [(-7, (("x", 1),))])

    def test_walks_from_each_kind(self):
        book = counting()
        self.assertEqual(stands(book, "l", ["come"]), [(0, (("l", 1),)), (1, ())])
        self.assertEqual(stands(book, "h", ["drop"]), [(0, (("h", 1),)), (-1, ())])
        told = stands(book, "h", ["copy", "come", "copy", "drop"])
        self.assertEqual([total for total, _ in told], [0, 0, 1, 1, 0])
        self.assertEqual([lot for _, lot in told][1:], [
            (("h", 2), ("l", 1)), (("h", 2),), (("h", 3), ("l", 1)), (("h", 2), ("l", 1))])

    def test_a_run_begins_with_the_start_and_the_count(self):
        book = Book(["h", "l"], ["h"], counting().rules, "l", 40)
        self.assertEqual(run_stands(book, ["come"]), [(40, (("l", 1),)), (41, ())])
        with self.assertRaises(NotDone):
            run_stands(book, ["drop"])

    def test_lots_ascend_whatever_the_order_of_the_book(self):
        rules = [("r", "m", ("z", "a", "z", "m", "b"), 5)]
        for kinds in itertools.permutations("zmab"):
            told = stands(Book(kinds, [], rules, "m", 0), "m", ["r", "r"])
            self.assertEqual(told[1:], [
                (5, (("a", 1), ("b", 1), ("m", 1), ("z", 2))), (10, (("a", 2), ("b", 2), ("m", 1), ("z", 4)))])

    def test_forms(self):
        told = stands(counting(), "h", ["copy", "drop", "drop", "come"])
        self.assertIs(type(told), list)
        for stand in told:
            self.assertIs(type(stand), tuple)
            self.assertIs(type(stand[1]), tuple)
            self.assertTrue(all(type(pair) is tuple and pair[1] > 0 for pair in stand[1]))
        self.assertEqual(told[-1], (-1, ()))

    def test_many_walks(self):
        chance = random.Random(21)
        for book in BOOKS:
            for kind in book.kinds:
                walk = drawn_walk(book, kind, chance, 9)
                self.assertEqual(stands(book, kind, walk), stands_by_prefixes(book, kind, walk, 0))
                self.assertIs(is_walk(book, kind, walk), True)
            run = drawn_walk(book, book.start, chance, 12)
            self.assertEqual(run_stands(book, run), stands_by_prefixes(book, book.start, run, book.amount))
            self.assertIs(is_run(book, run), True)

    def test_long_walks(self):
        book = ladder(3, -1)
        walk = [book.kinds[0] * 2]
        for at, kind in enumerate("bcdefghi"):
            walk += [kind * 2] * 3 ** (at + 1)
        walk += ["drop"] * 3 ** 9
        told = stands(book, "a", walk)
        self.assertEqual(len(told), len(walk) + 1)
        self.assertEqual([told[-1], told[-2]], [(-3 ** 9, ()), (1 - 3 ** 9, (("j", 1),))])
        self.assertEqual(told[-1 - 3 ** 9], (0, (("j", 3 ** 9),)))
        self.assertIs(is_run(book, walk), True)
        self.assertIs(is_run(book, walk + ["drop"]), False)
        rounds = ["copy", "drop", "come"] * 100000
        self.assertIs(is_walk(counting(), "h", rounds), True)
        self.assertEqual(mark(counting(), rounds), "going")
        self.assertEqual(stands(counting(), "h", rounds)[-1], (0, (("h", 1),)))
        with self.assertRaises(NotDone) as caught:
            run_stands(counting(), rounds + ["come"])
        self.assertEqual(caught.exception.number, 300000)


class Wrong(unittest.TestCase):
    def check(self, book, kind, walk, number):
        """The thing with this number is the first that can't be done."""
        calls = [lambda: stands(book, kind, walk), lambda: stands(book=book, walk=walk, kind=kind)]
        if kind == book.start:
            calls += [lambda: run_stands(book, walk), lambda: run_stands(book=book, run=walk),
                      lambda: mark(book, walk), lambda: mark(run=walk, book=book)]
            self.assertIs(is_run(book, walk), False)
        for call in calls:
            with self.assertRaises(NotDone) as caught:
                call()
            self.assertIs(type(caught.exception.number), int)
            self.assertEqual(caught.exception.number, number)
            self.assertIsInstance(caught.exception, HandleError)
        self.assertIs(is_walk(book, kind, walk), False)

    def test_what_is_not_there(self):
        book = counting()
        self.check(book, "h", ["come"], 0)
        self.check(book, "l", ["drop"], 0)
        self.check(book, "l", ["come", "come"], 1)
        self.check(book, "h", ["drop", "drop"], 1)
        self.check(book, "h", ["copy", "come", "come", "drop"], 2)
        self.check(book, "h", ["copy", "drop", "drop", "come", "copy"], 4)
        self.check(book, "h", ["copy", "drop", "drop", "drop", "come", "come"], 3)

    def test_what_is_no_name(self):
        book = counting()
        for value in NO_NAMES + [value for value in VALUES if value not in ("copy", "drop", "come")]:
            with self.subTest(repr(value)[:50]):
                self.check(book, "h", [value], 0)
                self.check(book, "h", ["copy", value, "drop"], 1)
                self.check(book, "h", ["copy", "drop", "come", value], 3)
                self.check(book, "l", [value, "come"], 0)
                self.check(book, "h", ["copy", value, value, "come", "come"], 1)

    def test_what_is_no_list(self):
        book = counting()
        for value in VALUES + [("copy", "drop"), ("drop",), "drop", {"drop": 1}, {"copy": "drop"}, counting()]:
            if not isinstance(value, list):
                with self.subTest(repr(value)[:50]):
                    self.check(book, "h", value, 0)
                    self.check(book, "l", value, 0)

    def test_no_kind_comes_first(self):
        book = counting()
        for value in VALUES + ["x", "H", "hl", "copy", ["h"], ("h",), {"h": 1}, book]:
            if value == "h" and isinstance(value, str):
                continue
            for ask in (stands, is_walk):
                for walk in ([], ["drop"], ["drop", "drop"], None, ("drop",), [[]]):
                    with self.subTest(f"{ask.__name__} {value!r:.50}"), self.assertRaises(NoKind) as caught:
                        ask(book, value, walk)
                    self.assertIs(caught.exception.value, value)

    def test_values_of_any_sort(self):
        book = counting()
        for value in VALUES + [[name] for name in NO_NAMES]:
            told = value == []
            self.assertIs(is_run(book, value), told)
            self.assertIs(is_walk(book, "l", value), told)
            self.assertIs(is_run(book=book, value=value), told)
            self.assertIs(is_walk(value=value, book=book, kind="h"), told)

    def test_walks_with_one_thing_exchanged(self):
        chance = random.Random(22)
        right = 0
        for book in BOOKS:
            others = [rule[0] for rule in book.rules] or ["x"]
            for kind in book.kinds:
                for _ in range(6):
                    value = exchanged(drawn_walk(book, kind, chance, 8), chance, others)
                    expected = lot_of(book, kind, value) is not None
                    right += expected
                    self.assertIs(is_walk(book, kind, value), expected)
                    if kind == book.start:
                        self.assertIs(is_run(book, value), expected)
        self.assertGreater(right, 300)


class Marks(unittest.TestCase):
    def test_each_mark(self):
        rules = [("fork", "h", ("h", "g"), 0), ("lose", "h", (), -1), ("go", "g", (), 1), ("jam", "g", ("x",), -2),
                 ("note", "h", ("l",), -1), ("come", "l", (), 0), ("pay", "g", (), -1)]
        book = Book(["h", "g", "l", "x"], ["h"], rules, "h", 1)
        for run, expected in [
                ([], "going"), (["fork"], "going"), (["fork", "jam"], "stuck"), (["fork", "lose"], "going"),
                (["fork", "lose", "go"], "kept"), (["fork", "fork", "lose"], "going"), (["fork", "pay"], "early"), (["lose"], "going"),
                (["fork", "pay", "fork", "go"], "going"), (["fork", "pay", "lose"], "going"),
                (["fork", "fork", "lose", "jam"], "stuck"), (["note"], "going"), (["note", "come"], "going"),
                (["fork", "lose", "jam"], "stuck"), (["fork", "go", "fork", "note"], "going")]:
            self.assertEqual(mark(book, run), expected, run)
            self.assertEqual(mark(run=run, book=book), expected, run)

    def test_empty_runs(self):
        drop = [("drop", "h", (), -1)]
        self.assertEqual(mark(Book(["h"], ["h"], drop, "h", 0), []), "early")
        self.assertEqual(mark(Book(["h"], ["h"], drop, "h", -5), []), "early")
        self.assertEqual(mark(Book(["h"], ["h"], drop, "h", 1), []), "going")
        self.assertEqual(mark(Book(["h"], [], drop, "h", 0), []), "going")
        self.assertEqual(mark(Book(["h"], [], drop, "h", 9), []), "going")
        self.assertEqual(mark(Book(["h"], ["h"], [], "h", 1), []), "stuck")
        self.assertEqual(mark(Book(["h"], [], [], "h", 1), []), "stuck")

    def test_stuck_comes_ahead_of_early(self):
        self.assertEqual(mark(Book(["h"], ["h"], [("r", "h", ("h",), 0)], "h", 0), []), "stuck")
        book = Book(["h", "x"], ["h"], [("r", "h", ("x", "h"), -1), ("s", "h", (), 0)], "h", 1)
        self.assertEqual(mark(book, ["r"]), "stuck")

    def test_the_last_lot_alone_counts(self):
        book = Book(["h", "l"], ["h"], [("down", "h", ("h", "l"), -2), ("up", "l", (), 2), ("lose", "h", (), -1)], "h", 1)
        self.assertEqual(mark(book, ["down"]), "early")
        self.assertEqual(mark(book, ["down", "up"]), "going")
        self.assertEqual(mark(book, ["down", "up", "lose"]), "going")
        self.assertEqual(mark(book, ["down", "lose"]), "going")

    def test_what_may_become_a_handle_is_alive(self):
        book = Book(["h", "l"], ["h"], [("wake", "l", ("h",), 0), ("drop", "h", (), -1)], "l", 0)
        self.assertEqual([mark(book, run) for run in ([], ["wake"], ["wake", "drop"])], ["early", "early", "going"])

    def test_many_runs(self):
        chance = random.Random(23)
        marks = {}
        for book in BOOKS:
            for _ in range(6):
                run = drawn_walk(book, book.start, chance, 8)
                self.assertEqual(mark(book, run), mark_of(book, run))
                marks[mark(book, run)] = marks.get(mark(book, run), 0) + 1
        self.assertTrue(all(marks[word] > 40 for word in ("stuck", "early", "kept", "going")), marks)


class Copies(unittest.TestCase):
    def test_arguments_are_not_changed(self):
        book, run = counting(), ["copy", "drop", "come"]
        before = copy.deepcopy([book.kinds, book.handles, book.rules, run])
        for ask in (run_stands, mark, is_run):
            ask(book, run)
        for ask in (stands, is_walk):
            ask(book, "h", run)
            self.assertRaises(NoKind, ask, book, "x", run)
        wrong = ["copy", ["drop"], {"come": []}]
        self.assertRaises(NotDone, run_stands, book, wrong)
        self.assertEqual(wrong, ["copy", ["drop"], {"come": []}])
        self.assertEqual([book.kinds, book.handles, book.rules, run], before)

    def test_results_are_new(self):
        book = counting()
        first = run_stands(book, ["copy", "drop"])
        before = list(first)
        first.append("y")
        first[0] = None
        self.assertEqual(run_stands(book, ["copy", "drop"]), before)
        self.assertIsNot(run_stands(book, []), run_stands(book, []))

    def test_order_makes_no_difference(self):
        chance = random.Random(24)
        for book in BOOKS:
            other = turned(book, chance)
            for kind in book.kinds:
                walk = drawn_walk(book, kind, chance, 8)
                self.assertEqual(stands(other, kind, walk), stands(book, kind, walk))
            run = drawn_walk(book, book.start, chance, 8)
            self.assertEqual(mark(other, run), mark(book, run))

    def test_rules_of_other_kinds_are_not_done(self):
        for book in BOOKS:
            for kind in book.kinds:
                own = {name for name, _ in rules_of(book, kind)}
                for name, _, _, _ in book.rules:
                    self.assertIs(is_walk(book, kind, [name]), name in own)
