"""Promises [3], [5], [6], [7], [19] and stage 3 of the interface: what kinds may become, and how soon."""

import copy
import random
import unittest

from farhandles.books import Book
from farhandles.errors import HandleError, NoKind
from farhandles.ways import about, alive, ending, shortest_about, shortest_end, way_to_nothing
from tests.samples import VALUES, counting, lot_behind, some_books, turned

LISTS = (alive, about, ending)
ASKED = (way_to_nothing, shortest_about, shortest_end)
SMALL = some_books(250, 3, 4, 2)
LARGE = some_books(150, 10, 10, 4)


def book_of(rules, start="a", handles=("h",), kinds="abcdefghijhlx"):
    """A book of rules told as "name kind outcome", with the outcome's letters as its kinds."""
    table = []
    for text in rules:
        name, kind, *outcome = text.split()
        table.append((name, kind, tuple("".join(outcome)), 0))
    return Book(list(dict.fromkeys(kinds)), handles, table, start, 1)


def lots_by_size(book, kind, most):
    """The lots that walks with 0, 1, .. most rules from a kind lead to, each size without the earlier ones."""
    first = ((kind, 1),)
    rounds, seen = [[first]], {first}
    for _ in range(most):
        fresh = []
        for lot in rounds[-1]:
            held = dict(lot)
            for _, source, outcome, _ in book.rules:
                if source in held:
                    after = dict(held)
                    after[source] -= 1
                    for part in outcome:
                        after[part] = after.get(part, 0) + 1
                    told = tuple(sorted((part, many) for part, many in after.items() if many))
                    if told not in seen:
                        seen.add(told)
                        fresh.append(told)
        rounds.append(fresh)
    return rounds


def first_round(rounds, wanted):
    """The number of the first of the rounds with a wanted lot, None if none has one."""
    for number, lots in enumerate(rounds):
        if any(wanted(lot) for lot in lots):
            return number
    return None


def ways_by_relaxing(book):
    """The ways to nothing of all kinds, told otherwise than the program tells them."""
    ways = {}
    for _ in book.kinds:
        for _, kind, outcome, _ in book.rules:
            if all(part in ways for part in outcome):
                way = 1 + sum(ways[part] for part in outcome)
                ways[kind] = min(way, ways.get(kind, way))
    return ways


def runs_by_relaxing(book):
    """The least numbers of rules of runs to all kinds, told otherwise than the program tells them."""
    numbers = {book.start: 0}
    for _ in book.kinds:
        for _, kind, outcome, _ in book.rules:
            for part in outcome:
                if kind in numbers:
                    numbers[part] = min(numbers[kind] + 1, numbers.get(part, numbers[kind] + 1))
    return numbers


def ladder(parts, kinds="abcdefghij"):
    """Each kind turns into so many of the next one, and the last one drops."""
    rules = [f"{kind * 2} {kind} {after * parts}" for kind, after in zip(kinds, kinds[1:])]
    return book_of([*rules, f"drop {kinds[-1]}"], handles=[kinds[-1]], kinds=kinds)


class Kinds(unittest.TestCase):
    def test_example(self):
        rules = [("pass", "h", ("l",), 0), ("come", "l", ("h",), 0), ("drop", "h", (), -1)]
        book = Book(["h", "l", "x"], ["h"], rules, "h", 1)
        told = [alive(book), about(book), ending(book), way_to_nothing(book, "l"), shortest_about(book, "l"),
                shortest_end(book, "l")]
        self.assertEqual(told, [["h", "l"], ["h", "l"], ["h", "l"], 2, ["pass"], ["come", "drop"]])

    def test_ordinary_book(self):
        book = counting()
        self.assertEqual([tell(book) for tell in LISTS], [["h"], ["h", "l"], ["h", "l"]])

    def test_alive(self):
        self.assertEqual(alive(book_of(["r l h"])), ["h", "l"])
        self.assertEqual(alive(book_of(["r l x", "s h l"])), ["h"])
        self.assertEqual(alive(book_of(["r l xxhx", "s x x"])), ["h", "l"])
        self.assertEqual(alive(book_of(["r a b", "s b c", "t c d", "u d h"])), ["a", "b", "c", "d", "h"])
        self.assertEqual(alive(book_of(["u d h", "t c d", "s b c", "r a b"])), ["a", "b", "c", "d", "h"])
        self.assertEqual(alive(book_of(["r a b", "s b a"])), ["h"])
        self.assertEqual(alive(book_of(["r a b"], handles=())), [])
        self.assertEqual(alive(book_of([], handles=("x", "a", "h"))), ["a", "h", "x"])
        self.assertEqual(alive(book_of(["r x", "s x h"])), ["h", "x"])

    def test_about(self):
        self.assertEqual(about(book_of([], start="x")), ["x"])
        self.assertEqual(about(book_of(["r a", "s b c"])), ["a"])
        self.assertEqual(about(book_of(["r a cdc", "s d x", "t h b"])), ["a", "c", "d", "x"])
        self.assertEqual(about(book_of(["u d h", "t c d", "s b c", "r a b"])), ["a", "b", "c", "d", "h"])
        self.assertEqual(about(book_of(["r a b", "s b a", "t h a"])), ["a", "b"])

    def test_ending(self):
        self.assertEqual(ending(book_of([])), [])
        self.assertEqual(ending(book_of(["r a a"])), [])
        self.assertEqual(ending(book_of(["r a b", "s b a"])), [])
        self.assertEqual(ending(book_of(["r a bb", "s b", "t c bx"])), ["a", "b"])
        self.assertEqual(ending(book_of(["t d ccb", "s c b", "r b"])), ["b", "c", "d"])
        self.assertEqual(ending(book_of(["r a x", "s a aa", "t a b", "u b"])), ["a", "b"])
        self.assertEqual(ending(book_of(["r x", "s h"])), ["h", "x"])

    def test_lists_of_many_books(self):
        for book in SMALL:
            # A kind that can come about or be a handle is so within as many rules as there are kinds.
            for kind in book.kinds:
                rounds = lots_by_size(book, kind, len(book.kinds) - 1)
                met = {part for lots in rounds for lot in lots for part, many in lot}
                self.assertIs(kind in alive(book), bool(met & set(book.handles)))
                if kind == book.start:
                    self.assertEqual(about(book), sorted(met))
        for book in SMALL + LARGE:
            self.assertEqual(ending(book), sorted(ways_by_relaxing(book)))


class Nearest(unittest.TestCase):
    def check_end(self, book, kind, way):
        """The way to nothing, and a walk to the empty lot of just so many rules."""
        self.assertEqual(way_to_nothing(book, kind), way)
        walk = shortest_end(book, kind)
        self.assertIs(type(walk), list)
        self.assertEqual(len(walk), way)
        self.assertEqual(lot_behind(book, kind, walk), {})

    def check_none(self, book, kind):
        self.assertIs(way_to_nothing(book, kind), None)
        self.assertIs(shortest_end(book, kind), None)

    def check_run(self, book, kind, number):
        """A run of just so many rules behind which the kind is in the lot."""
        run = shortest_about(book, kind)
        self.assertIs(type(run), list)
        self.assertEqual(len(run), number)
        self.assertGreater(lot_behind(book, book.start, run)[kind], 0)

    def test_ways_to_nothing(self):
        self.check_end(book_of(["r a"]), "a", 1)
        self.check_end(book_of(["r a b", "s b c", "t c"]), "a", 3)
        self.check_end(book_of(["r a bb", "s b ccc", "t c"]), "a", 9)
        self.check_end(book_of(["r a bb", "s b ccc", "t c", "u a ccccc"]), "a", 6)
        self.check_end(book_of(["r a bb", "s b ccc", "t c", "u a cccccccc"]), "a", 9)
        self.check_end(book_of(["r a a", "s a aa", "t a ab", "u a bbbb", "v b", "w b b"]), "a", 5)
        self.check_end(book_of(["r a bbbb", "s b", "t a c", "u c d", "v d e", "w e"]), "a", 4)
        self.check_end(book_of(["r a bc", "s b c", "t c d", "u d e", "v e", "w b x"]), "a", 8)

    def test_no_way_to_nothing(self):
        self.check_none(book_of([]), "a")
        self.check_none(book_of(["r a aa"]), "a")
        self.check_none(book_of(["r a b", "s b a", "t c"]), "a")
        self.check_none(book_of(["r a bx", "s b"]), "a")
        self.check_none(book_of(["r a bx", "s b"]), "x")
        self.check_end(book_of(["r a bx", "s b"]), "b", 1)

    def test_unreached_kinds_have_a_way_to_nothing_too(self):
        book = book_of(["r a", "s x ll", "t l"])
        self.check_end(book, "x", 3)
        self.assertIs(shortest_about(book, "x"), None)

    def test_runs_about(self):
        self.assertEqual(shortest_about(book_of([]), "a"), [])
        self.assertEqual(shortest_about(book_of(["r a a", "s a aa"]), "a"), [])
        self.check_run(book_of(["r a b", "s b c", "t c d", "u d x"]), "x", 4)
        self.check_run(book_of(["r a b", "s b c", "t c d", "u d x", "v b x"]), "x", 2)
        self.check_run(book_of(["r a b", "s b c", "t c d", "u d x", "v b x", "w a lllx"]), "x", 1)
        self.check_run(book_of(["u d x", "t c d", "s b c", "r a bbb", "v a dd"]), "x", 2)
        self.check_run(book_of(["r h b", "s b c"], start="h"), "c", 2)

    def test_kinds_that_never_come_about(self):
        self.assertIs(shortest_about(book_of([]), "x"), None)
        self.assertIs(shortest_about(book_of(["r a b", "s b a", "t x a", "u h x"]), "x"), None)
        self.assertIs(shortest_about(book_of(["r a", "s l x", "t x l"]), "x"), None)

    def test_ways_much_longer_than_the_book(self):
        self.check_end(ladder(1), "a", 10)
        self.check_end(ladder(2), "a", 2 ** 10 - 1)
        self.check_end(ladder(4), "a", (4 ** 10 - 1) // 3)
        self.check_end(ladder(4), "e", (4 ** 6 - 1) // 3)
        self.check_end(ladder(2, "abcdefghijklmnop"), "a", 2 ** 16 - 1)
        self.check_run(ladder(4), "j", 9)
        self.check_run(ladder(1, "abcdefghijklmnopqrstuvwxyz"), "z", 25)

    def test_long_chains(self):
        kinds = ["k" + first + second for first in "abcdefghijklmno" for second in "abcdefghijklmno"]
        rules = [(kind, kind, (after,), 0) for kind, after in zip(kinds, kinds[1:])] + [("drop", kinds[-1], (), 0)]
        book = Book(kinds, kinds[-1:], rules[::-1], kinds[0], 1)
        self.assertEqual([tell(book) for tell in LISTS], [kinds, kinds, kinds])
        self.check_end(book, kinds[0], len(kinds))
        self.check_run(book, kinds[-1], len(kinds) - 1)

    def test_against_a_search_through_lots(self):
        most = 6
        for book in SMALL:
            for kind in book.kinds:
                rounds = lots_by_size(book, kind, most)
                number = first_round(rounds, lambda lot: lot == ())
                way = way_to_nothing(book, kind)
                if number is None:
                    self.assertTrue(way is None or way > most)
                else:
                    self.check_end(book, kind, number)
            rounds = lots_by_size(book, book.start, len(book.kinds))
            for kind in book.kinds:
                number = first_round(rounds, lambda lot: kind in dict(lot))
                if number is None:
                    self.assertIs(shortest_about(book, kind), None)
                else:
                    self.check_run(book, kind, number)

    def test_many_books(self):
        for book in SMALL + LARGE:
            ways, numbers = ways_by_relaxing(book), runs_by_relaxing(book)
            self.assertEqual(about(book), sorted(numbers))
            for kind in book.kinds:
                if kind in ways:
                    self.check_end(book, kind, ways[kind])
                else:
                    self.check_none(book, kind)
                if kind in numbers:
                    self.check_run(book, kind, numbers[kind])
                else:
                    self.assertIs(shortest_about(book, kind), None)


class Arguments(unittest.TestCase):
    def test_no_kind(self):
        rules = [("drop", "h", (), 0), ("lose", "hl", (), 0)]
        book = Book(["h", "hl", "lh"], ["h"], rules, "h", 1)
        for value in VALUES + ["l", "hlh", "drop", "H", "hl ", ["hl"], ("hl",), {"hl": 1}, book]:
            if value == "h" and isinstance(value, str):
                continue
            for ask in ASKED:
                with self.subTest(f"{ask.__name__} {value!r:.50}"):
                    for given in ({"kind": value, "book": book}, None):
                        with self.assertRaises(NoKind) as caught:
                            ask(**given) if given else ask(book, value)
                        self.assertIs(caught.exception.value, value)
                        self.assertIsInstance(caught.exception, HandleError)

    def test_by_name(self):
        book = counting()
        for tell in LISTS:
            self.assertEqual(tell(book=book), tell(book))
        for ask in ASKED:
            self.assertEqual(ask(kind="l", book=book), ask(book, "l"))
        told = [way_to_nothing(book=book, kind="h"), shortest_about(book=book, kind="l"), shortest_end(kind="l", book=book)]
        self.assertEqual(told, [1, ["copy"], ["come"]])

    def answers(self, book):
        return [tell(book) for tell in LISTS] + [[ask(book, kind) for kind in sorted(book.kinds)] for ask in ASKED]

    def test_order_makes_no_difference(self):
        chance = random.Random(7)
        ties = book_of(["r a bc", "s a cb", "t b", "u b", "v c", "w c", "p a bbb", "q b d", "m c d", "n d x", "o d x"])
        self.assertEqual(self.answers(ties), self.answers(ties))
        for book in [ties] * 20 + SMALL + LARGE:
            first = self.answers(book)
            for _ in range(3):
                self.assertEqual(self.answers(turned(book, chance)), first)

    def test_results_are_new(self):
        book = book_of(["r a bbh", "s b l", "t l", "u h"])
        parts = copy.deepcopy([book.kinds, book.handles, book.rules, book.start, book.amount])
        before = copy.deepcopy(self.answers(book))
        for tell in LISTS:
            tell(book).append("y")
            tell(book).clear()
        for ask in ASKED[1:]:
            for kind in "abhl":
                ask(book, kind).append("y")
                ask(book, kind).clear()
        self.assertEqual(self.answers(book), before)
        self.assertEqual([book.kinds, book.handles, book.rules, book.start, book.amount], parts)

    def test_what_is_told_is_ascending(self):
        for book in SMALL + LARGE:
            for tell in LISTS:
                told = tell(book)
                self.assertIs(type(told), list)
                self.assertEqual(told, sorted(set(told)))
