"""Promises [2], [3], [6], [10], [19] and stage 5 of the interface: right books, papers, bad runs."""

import copy
import random
import unittest
from collections import Counter

from farhandles.books import Book
from farhandles.runs import is_run, mark
from farhandles.verdicts import bad_run, decide, is_paper, is_right, paper
from tests.judges import changes_of, ended, living, lot_of, mark_of, met, paper_holds, verdict
from tests.samples import VALUES, book_of, counting, drawn_books, exchanged, ladder, shared, some_books, turned

SMALL = drawn_books(600, 4, "verdicts")
BOOKS = SMALL + drawn_books(100, 9, "verdicts") + some_books(100, 5, 6, 3)


def marks_of_runs(book, most, states=4000):
    """The marks of all runs of at most so many rules, or of fewer if there are too many."""
    ends, alive = ended(book), living(book)
    seen = newest = {(((book.start, 1),), book.amount)}
    for _ in range(most):
        fresh = set()
        for lot, count in newest:
            for _, source, outcome, change in book.rules:
                if source in dict(lot):
                    after = Counter(dict(lot)) - Counter([source]) + Counter(outcome)
                    fresh.add((tuple(sorted(after.items())), count + change))
        newest = fresh - seen
        seen = seen | newest
        if len(seen) > states:
            break
    told = set()
    for lot, count in seen:
        kinds = {kind for kind, _ in lot}
        if kinds - ends:
            told.add("stuck")
        if kinds & alive and count <= 0:
            told.add("early")
        if not lot and count >= 1:
            told.add("kept")
    return told


class Checks(unittest.TestCase):
    def check(self, book, expected):
        """The verdict, with a paper or a run that shows it."""
        self.assertIs(is_right(book), expected == "right")
        told = decide(book)
        self.assertEqual((type(told), len(told)), (tuple, 2))
        self.assertEqual(told[0], expected, (book.rules, told))
        if expected == "right":
            self.assertTrue(paper_holds(book, told[1]), told[1])
            self.assertIs(is_paper(book, told[1]), True)
            self.assertEqual(paper(book), told[1])
            self.assertIs(bad_run(book), None)
        else:
            self.assertIs(type(told[1]), list)
            self.assertIs(is_run(book, told[1]), True)
            self.assertEqual([mark(book, told[1]), mark_of(book, told[1])], [expected, expected])
            self.assertEqual(bad_run(book), told[1])
            self.assertIs(paper(book), None)
        return told[1]


class Verdicts(Checks):
    def test_example(self):
        book = counting()
        self.assertEqual([is_right(book), decide(book)[0]], [False, "early"])
        self.assertEqual([is_right(shared()), is_paper(shared(), paper(shared()))], [True, True])

    def test_right(self):
        self.check(shared(), "right")
        self.check(book_of(["drop h -1"], "h"), "right")
        self.check(book_of(["drop h l 0", "come l -1"], "h"), "right")
        self.check(book_of(["copy h hh 1", "drop h -1"], "h"), "right")
        self.check(book_of(["copy h hh 1", "drop h l 0", "come l -1"], "h"), "right")
        self.check(book_of(["copy h hhhh 3", "pass h h 0", "drop h -1"], "h"), "right")
        self.check(book_of(["ask h ha 0", "come a b 4", "back b -4", "drop h -1"], "h"), "right")
        self.check(book_of(["ask h ha 4", "come a b 4", "back b -8", "drop h -5"], "h", count=5), "right")

    def test_right_if_nothing_is_alive(self):
        self.check(book_of(["drop h -1"], ""), "right")
        self.check(book_of(["drop h 0"], "", count=0), "right")
        self.check(book_of(["drop h 0"], "", count=-7), "right")
        self.check(book_of(["drop h 0"], "", count=1), "kept")
        self.check(book_of(["drop h -1", "fall h h -3"], "", count=1), "right")
        self.check(book_of(["drop h -1", "make x h 0"], "x", count=-1), "right")
        told = self.check(book_of(["drop h l -1", "go l -9"], "", count=1), "right")
        self.assertEqual(sorted(told), ["alive", "beside", "ends", "roof"])

    def test_stuck(self):
        self.check(book_of([], "h"), "stuck")
        self.check(book_of(["pass h h 0"], "h"), "stuck")
        self.check(book_of(["drop h -1", "jam h x 0"], "h"), "stuck")
        self.check(book_of(["drop h -1", "copy h hh 1", "a h b 0", "b b c 0", "c c b 0"], "h"), "stuck")
        self.check(book_of(["drop h -1", "jam y x 0"], "h"), "right")
        self.assertEqual(bad_run(book_of(["a h b 0", "b b c 0", "c c x 0", "d h 0", "e b 0", "f c 0"], "h")), ["a", "b", "c"])
        self.assertEqual(bad_run(book_of([], "")), [])

    def test_stuck_comes_ahead_of_early_and_kept(self):
        self.check(book_of(["drop h -1", "jam h x 0"], "h", count=0), "stuck")
        self.check(book_of(["drop h 0", "jam h x 0"], "", count=3), "stuck")
        self.check(book_of(["drop h -1", "fall h h -1", "more h h 1", "a h b 0", "b b x 0"], "h"), "stuck")
        self.check(book_of([], "h", count=0), "stuck")

    def test_early(self):
        self.assertEqual(self.check(book_of(["drop h -1"], "h", count=0), "early"), [])
        self.assertEqual(self.check(book_of(["drop h -1"], "h", count=-4), "early"), [])
        self.assertEqual(self.check(book_of(["drop h -1", "fall h h -1"], "h"), "early"), ["fall"])
        self.check(book_of(["drop h -1", "copy h hh 0"], "h"), "early")
        self.check(book_of(["copy h hh 1", "drop h -2"], "h"), "early")
        self.check(shared(1), "early")
        self.check(book_of(["wake l h -1", "drop h 0"], "h", start="l"), "early")

    def test_early_only_in_long_runs(self):
        run = self.check(book_of(["copy h hh 1", "drop h -1", "fall h h -1"], "h", count=1000), "early")
        self.assertEqual(len(run), 1000)
        run = self.check(book_of(["go h ha 1", "a a b 1", "b b c 1", "c c -4", "drop h -1000"], "h", count=1000), "early")
        self.assertEqual(len(run), 4 * 1000)
        self.check(book_of(["go h ha 2", "a a b 1", "b b c 1", "c c -4", "drop h -1000"], "h", count=1000), "right")
        self.check(book_of(["copy h hh 1000", "drop h -1", "pair h g -999", "lose g -2"], "h", count=1000), "early")

    def test_early_while_something_beside_falls(self):
        self.check(book_of(["fork h ha 0", "a a a -1", "b a 0", "drop h -5"], "h", count=5), "early")
        self.check(book_of(["fork h ha 0", "a a a 0", "b a -4", "c a -4", "drop h -5"], "h", count=5), "early")
        self.check(book_of(["fork h ga 0", "a a a 0", "b a -4", "c a -3", "lose g -1", "drop h -5"], "h", count=5), "kept")
        self.check(book_of(["fork h ga 0", "a a a 0", "b a -4", "c a -4", "lose g -1", "drop h -5"], "gh", count=5), "right")
        self.check(book_of(["fork h ga 0", "a a a 0", "b a -5", "c a -4", "lose g -1", "drop h -5"], "gh", count=5), "early")
        # If nothing is alive any more, the count may fall as it likes.
        self.check(book_of(["drop h ll 0", "come l -1", "fall l l -9"], "h", count=2), "right")
        self.check(book_of(["drop h gl 0", "lose g 0", "come l -1", "fall l l -9"], "hg", count=1), "early")

    def test_the_last_handle_goes_beside_others(self):
        self.check(book_of(["part h gg 0", "lose g -1"], "hg", count=2), "right")
        self.check(book_of(["part h gg 0", "lose g -1"], "hg", count=1), "early")
        self.check(book_of(["part h gg 0", "lose g -1"], "hg", count=3), "kept")
        self.check(book_of(["part h ggg 0", "lose g -1", "turn g h 2"], "hg", count=3), "right")
        self.check(book_of(["part h ggg 0", "lose g -1", "turn g h 1"], "hg", count=3), "early")

    def test_kept(self):
        self.assertEqual(self.check(book_of(["drop h 0"], "h"), "kept"), ["drop"])
        self.check(book_of(["drop h -1"], "h", count=2), "kept")
        self.check(book_of(["drop h -1", "more h h 1"], "h"), "kept")
        self.check(book_of(["copy h hh 2", "drop h -1"], "h"), "kept")
        self.check(shared(3), "kept")
        self.check(book_of(["drop h l 0", "come l -1", "lose l 0"], "h"), "kept")

    def test_kept_only_in_long_runs(self):
        run = self.check(book_of(["drop h -1000", "more h h 1"], "h", count=1000), "kept")
        self.assertEqual(run, ["more", "drop"])
        run = self.check(book_of(["drop l -1", "more l l 1", "big h l -999"], "", count=-1000), "kept")
        self.assertEqual(len(run), 2003)
        self.check(book_of(["drop l -1", "more l ll 1", "big h l -999"], "", count=-1000), "right")
        run = self.check(book_of(["drop l -1", "more l lm 1", "a m n 1", "b n -1", "big h l -999"], "", count=-1000), "kept")
        self.assertEqual(len(run), 3 * 2001 + 2)

    def test_early_comes_ahead_of_kept(self):
        self.check(book_of(["drop h 0", "fall h h -1"], "h"), "early")
        self.check(book_of(["drop h 5", "copy h hh -1"], "h"), "early")
        self.check(book_of(["drop h 1"], "h", count=0), "early")

    def test_the_count_goes_for_what_comes_about_only(self):
        self.check(book_of(["drop h -1", "fall g g -1", "up g 9"], "hg"), "right")
        self.check(book_of(["drop h -1", "fall g g -1", "up g 9", "turn h g 0"], "hg"), "early")

    def test_many(self):
        told = Counter()
        for book in BOOKS:
            self.check(book, verdict(book))
            told[verdict(book)] += 1
        self.assertTrue(min(told[word] for word in ("right", "stuck", "early", "kept")) > 50, told)

    def test_all_runs_of_small_books(self):
        for book in SMALL:
            marks = marks_of_runs(book, 7)
            told = decide(book)[0]
            if told == "right":
                self.assertEqual(marks, set())
            if told != "stuck":
                self.assertNotIn("stuck", marks)
            if told == "kept":
                self.assertNotIn("early", marks)
            run = bad_run(book)
            if run is not None and len(run) <= 7 and len(marks) > 0:
                self.assertIn(told, marks_of_runs(book, len(run), 10 ** 6))


class LongRuns(Checks):
    def test_trees_much_larger_than_the_book(self):
        self.check(ladder(4, -1, count=4 ** 9), "right")
        self.check(ladder(4, -1, count=4 ** 9 - 1), "early")
        run = self.check(ladder(4, -1, count=4 ** 9 + 1), "kept")
        self.assertEqual(len(run), (4 ** 10 - 1) // 3)
        self.check(ladder(4, -1, count=1), "early")
        self.check(ladder(4, -1, count=1000), "early")
        self.check(ladder(2, -1, "abcdefghijklmnop", 2 ** 15 - 1), "early")

    def test_rings_much_larger_than_the_book(self):
        rules = [(kind * 2, kind, (after,) * 4, 3) for kind, after in zip("bcdefgh", "cdefghi")]
        rules += [("drop", "i", (), -1), ("grow", "a", ("a", "b"), 0), ("die", "a", (), -9)]
        self.check(Book(list("abcdefghi"), ["a"], rules, "a", 9), "early")
        up = [(name, kind, outcome, -change) for name, kind, outcome, change in rules]
        run = self.check(Book(list("abcdefghi"), [], up, "a", -20), "kept")
        self.assertGreater(len(run), 4 ** 7)

    def test_a_run_does_not_take_a_long_way_round(self):
        rules = [(kind * 2, kind, (after,) * 4, 0) for kind, after in zip("bcdefghi", "cdefghij")]
        rules += [("drop", "j", (), -1), ("grow", "a", ("a", "b"), 0), ("die", "a", (), -9), ("quick", "b", (), -2)]
        self.assertLess(len(self.check(Book(list("abcdefghij"), ["a"], rules, "a", 1000), "early")), 3000)
        rules[-1] = ("quick", "b", (), 1)
        self.assertLess(len(self.check(Book(list("abcdefghij"), [], rules, "a", -500), "kept")), 3000)


class Papers(Checks):
    def one(self, **other):
        """The book of the paper below, which is right with the count 2."""
        return is_paper(shared(), {**self.PAPER, **other})

    PAPER = {
        "ends": {"h": 3, "g": 2, "l": 1}, "alive": {"h": -1, "g": 0}, "beside": {"g": -1, "l": -1},
        "roof": {"h": -2, "g": -1, "l": -1},
    }

    def test_conditions_of_ends(self):
        for ends, expected in [
                ({"h": 3, "g": 2, "l": 1}, True), ({"h": 9, "g": 8, "l": 7}, True), ({"h": 2, "g": 2, "l": 1}, True),
                ({"h": 3, "g": 2, "l": 0}, False), ({"h": 1, "g": 2, "l": 1}, False), ({"h": 3, "g": 1, "l": 1}, False),
                ({"g": 2, "l": 1}, False), ({"h": 3, "l": 1}, False), ({"h": 3, "g": 2}, False), ({}, False),
                ({"h": 3, "g": 2, "l": True}, False), ({"h": 3, "g": 2, "l": None}, False), ([("h", 3)], False),
                ({"h": 3, "g": 2, "l": 1, "x": 1}, False), ({"h": 3, "g": 2, "l": "1"}, False), (None, False)]:
            self.assertIs(self.one(ends=ends), expected, ends)

    def test_conditions_of_alive(self):
        for numbers, expected in [
                ({"h": -1, "g": 0}, True), ({"h": 0, "g": 0}, False), ({"h": -2, "g": 0}, False), ({"h": -1, "g": -1}, False),
                ({"h": -1}, False), ({"g": 0}, False), ({}, False), ({"h": -1, "g": 1}, False), ({"h": -1, "g": False}, False),
                ({"h": -1, "g": 0, "l": 0}, False), ({"h": -1, "g": 0, "x": 0}, False), ({"h": -1, "g": None}, False),
                ([["h", -1]], False), (None, False)]:
            self.assertIs(self.one(alive=numbers), expected, numbers)

    def test_conditions_of_beside(self):
        for numbers, expected in [
                ({"g": -1, "l": -1}, True), ({"g": -1, "l": -1, "h": -2}, True), ({"g": -1, "l": -1, "h": -1}, False),
                ({"g": -1}, False), ({"l": -1}, False), ({"g": 0, "l": -1}, False), ({"g": -1, "l": 0}, False),
                ({"g": -2, "l": -1}, False), ({"g": -1, "l": -2}, False), ({}, False), ({"h": -9, "g": -1, "l": -1}, True), ({"g": -1, "l": True}, False),
                ({"g": -1, "l": -1, "x": 0}, False), (None, False)]:
            self.assertIs(self.one(beside=numbers), expected, numbers)

    def test_conditions_of_roof(self):
        for numbers, expected in [
                ({"h": -2, "g": -1, "l": -1}, True), ({"h": -1, "g": -1, "l": -1}, False), ({"h": -3, "g": -1, "l": -1}, False),
                ({"h": -2, "g": 0, "l": -1}, False), ({"h": -2, "g": -1, "l": 0}, False), ({"h": -2, "g": -1}, False),
                ({"h": -2, "l": -1}, False), ({"g": -1, "l": -1}, False), ({}, False), ({"h": -2, "g": -1, "l": None}, False),
                ({"h": -2, "g": -1, "l": -1, "x": -1}, False), ([], False)]:
            self.assertIs(self.one(roof=numbers), expected, numbers)

    def test_keys(self):
        self.assertIs(self.one(), True)
        for key in self.PAPER:
            for value in ({other: worth for other, worth in self.PAPER.items() if other != key},
                          {(key.upper() if key == other else other): worth for other, worth in self.PAPER.items()}):
                self.assertIs(is_paper(shared(), value), False)
            for value in VALUES:
                told = {**self.PAPER, key: value}
                self.assertIs(is_paper(shared(), told), paper_holds(shared(), told))
        self.assertIs(self.one(more={}), False)
        self.assertIs(is_paper(value=self.PAPER, book=shared()), True)
        self.assertIs(is_paper(shared(), list(self.PAPER.items())), False)

    def test_other_counts(self):
        for count in (-1, 0, 1, 3, 4):
            self.assertIs(is_paper(shared(count), self.PAPER), False)

    def test_start_that_is_not_alive(self):
        book = book_of(["drop h l -1", "go l -9", "wake x 0"], "x", count=1)
        told = {"ends": {"h": 2, "l": 1}, "alive": {}, "beside": {}, "roof": {"h": -10, "l": -9}}
        self.assertTrue(paper_holds(book, told))
        self.assertIs(is_paper(book, told), True)
        self.assertIs(is_paper(book, {**told, "alive": {"x": 0}}), True)
        self.assertIs(is_paper(book, {**told, "alive": {"x": -3}}), True)
        self.assertIs(is_paper(book, {**told, "alive": {"h": 0}}), False)
        self.assertIs(is_paper(book, {**told, "beside": {"l": -9}}), True)
        self.assertIs(is_paper(book, {**told, "beside": {"l": -8}}), False)
        self.assertEqual([paper(book)["alive"].get("h"), is_right(book)], [None, True])

    def test_each_place_with_an_alive_kind(self):
        book = book_of(["fork h gll 4", "lose g -1", "come l -2", "drop h -1", "also g gl 2"], "hg")
        told = paper(book)
        self.assertTrue(paper_holds(book, told))
        for key, kind in [("beside", "l"), ("alive", "g"), ("alive", "h")]:
            other = copy.deepcopy(told)
            del other[key][kind]
            self.assertIs(is_paper(book, other), False)
        other = copy.deepcopy(told)
        other["beside"]["l"] -= 1
        self.assertIs(is_paper(book, other), paper_holds(book, other))

    def test_values_of_any_sort(self):
        for value in VALUES + [paper, ("right", paper(shared())), [paper(shared())]]:
            self.assertIs(is_paper(shared(), value), False)
            self.assertIs(is_paper(counting(), value), False)

    def test_one_thing_exchanged(self):
        chance = random.Random(51)
        told = Counter()
        for book in BOOKS:
            found = paper(book)
            for _ in range(12 if found is not None else 0):
                value = exchanged(found, chance, book.kinds + list(found))
                self.assertIs(is_paper(book, value), paper_holds(book, value), (book.rules, value))
                told[paper_holds(book, value)] += 1
        self.assertTrue(min(told.values()) > 200, told)

    def test_one_number_key_or_kind_exchanged_deeper(self):
        chance = random.Random(52)
        told = Counter()
        for book in BOOKS:
            found = paper(book)
            for key in found or {}:
                for _ in range(4):
                    value = {**found, key: exchanged(found[key], chance, book.kinds)}
                    expected = paper_holds(book, value)
                    self.assertIs(is_paper(book, value), expected, (book.rules, value))
                    told[key, expected] += 1
        self.assertEqual(len(told), 8)
        self.assertTrue(min(told.values()) > 30, told)

    def test_papers_of_other_books(self):
        chance = random.Random(53)
        papers = [paper(book) for book in SMALL if is_right(book)]
        for book in SMALL:
            for value in chance.sample(papers, 5):
                self.assertIs(is_paper(book, value), paper_holds(book, value))
            if not is_right(book):
                self.assertFalse(any(is_paper(book, value) for value in papers[:20]))


class Copies(Checks):
    def test_order_makes_no_difference(self):
        chance = random.Random(54)
        for book in BOOKS:
            other = turned(book, chance)
            self.assertEqual([decide(other), paper(other), bad_run(other)], [decide(book), paper(book), bad_run(book)])

    def test_results_are_new_and_arguments_stay(self):
        for book in [shared(), counting(), *BOOKS[:80]]:
            before = copy.deepcopy((book.kinds, book.handles, book.rules, decide(book)))
            told, run = decide(book)[1], bad_run(book)
            if run is None:
                self.assertEqual(len({id(part) for part in told.values()}), 4)
                for table in [*told.values(), *paper(book).values()]:
                    self.assertIs(type(table), dict)
                    table["y"] = 1
                told.clear()
            else:
                told.append("y")
                run.append("y")
            self.assertEqual((book.kinds, book.handles, book.rules, decide(book)), before)

    def test_judges_change_nothing(self):
        value = copy.deepcopy(Papers.PAPER)
        is_paper(shared(), value)
        self.assertEqual(value, Papers.PAPER)

    def test_by_name(self):
        for ask in (is_right, paper, bad_run, decide):
            self.assertEqual(ask(book=shared()), ask(shared()))

    def test_papers_tell_what_comes_about(self):
        for book in BOOKS:
            told = paper(book)
            if told is not None:
                self.assertTrue(set(told["ends"]) >= met(book, book.start))
                self.assertEqual(book.start in told["alive"], book.start in living(book))
                self.assertIs(lot_of(book, book.start, told), None)
                self.assertIs(is_paper(book, changes_of(book)), False)
