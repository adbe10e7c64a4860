"""Promises [3], [13], [14], [19] and stage 8 of the interface: faulty runs, papers for doublings and for losses."""

import copy
import random
import unittest
from collections import Counter

from farhandles.books import Book
from farhandles.errors import BadLetters, BadTimes, NoEnd, NotDone
from farhandles.faults import early_run, faulty_stands, is_never_early, is_never_kept, kept_run, never_early, never_kept
from farhandles.runs import run_stands
from farhandles.ways import ending
from tests.judges import ended, faulty_lots, faulty_marks, living, never_early_holds, never_kept_holds
from tests.samples import VALUES, book_of, counting, drawn_books, exchanged, ladder, shared, turned


def all_end(book):
    return ended(book) == set(book.kinds)


SMALL = [book for book in drawn_books(700, 4, "faults") if all_end(book)]
BOOKS = SMALL + [book for book in drawn_books(120, 8, "faults") if all_end(book)]
NONE = {"twice": [], "lost": []}


def drawn_letters(book, chance):
    """Some kinds that may be doubled, and some that may be lost."""
    kinds = book.kinds
    return {word: chance.sample(kinds, chance.randint(0, len(kinds))) for word in ("twice", "lost")}


def mark_of(book, run, letters, most):
    """Whether a faulty run is early, and whether it is kept."""
    told, bad = faulty_lots(book, run, letters, most)
    assert bad is None, (book.rules, run, bad)
    count, lot = told[-1]
    return bool(count <= 0 and set(lot) & living(book)), count >= 1 and not lot


class Checks(unittest.TestCase):
    def check_early(self, book, letters, most, expected):
        """A paper if no faulty run is early, or else an early one."""
        paper, run = never_early(book, letters, most), early_run(book, letters, most)
        case = (book.rules, book.handles, book.start, book.amount, letters, most, paper, run)
        if expected == "never":
            self.assertTrue(never_early_holds(book, letters, most, paper), case)
            self.assertIs(is_never_early(book, letters, most, paper), True, case)
            self.assertIs(run, None, case)
            return paper
        self.assertIs(paper, None, case)
        self.assertIs(type(run), list, case)
        self.assertTrue(mark_of(book, run, {**letters, "lost": []}, most)[0], case)
        self.assertLessEqual(faulty_stands(book, run, letters, most)[-1][0], 0)
        return run

    def check_kept(self, book, letters, most, expected):
        """A paper if no faulty run is kept, or else a kept one."""
        paper, run = never_kept(book, letters, most), kept_run(book, letters, most)
        case = (book.rules, book.start, book.amount, letters, most, paper, run)
        if expected == "never":
            self.assertTrue(never_kept_holds(book, letters, most, paper), case)
            self.assertIs(is_never_kept(book, letters, most, paper), True, case)
            self.assertIs(run, None, case)
            return paper
        self.assertIs(paper, None, case)
        self.assertIs(type(run), list, case)
        self.assertTrue(mark_of(book, run, {**letters, "twice": []}, most)[1], case)
        self.assertEqual(faulty_stands(book, run, letters, most)[-1][1], ())
        return run

    def check_row(self, check, book, letters, expected):
        """The answers for 0, 1, 2 and 3 faults, as "never" or "bad"."""
        for most, word in enumerate(expected.split()):
            check(book, letters, most, word)


class Stands(unittest.TestCase):
    def check(self, book, run, letters, most):
        told, bad = faulty_lots(book, run, letters, most)
        if bad is None:
            expected = [(count, tuple(sorted(lot.items()))) for count, lot in told]
            self.assertEqual(faulty_stands(book, run, letters, most), expected)
            return None
        with self.assertRaises(NotDone, msg=repr(run)) as caught:
            faulty_stands(book, run, letters, most)
        self.assertEqual((caught.exception.number, type(caught.exception.number)), (bad, int), run)
        return bad

    def test_example(self):
        letters = {"twice": ["l"], "lost": ["l"]}
        book = shared()
        self.assertIs(never_early(book, letters, 0) is None, False)
        self.assertIs(never_early(book, letters, 1), None)
        self.assertIs(faulty_stands(book, early_run(book, letters, 1), letters, 1)[-1][0] <= 0, True)
        self.assertEqual(faulty_stands(book, kept_run(book, letters, 1), letters, 1)[-1], (1, ()))

    def test_both_kinds_of_faults(self):
        letters = {"twice": ["l", "h"], "lost": ["l", "g"]}
        run = [("twice", "h"), "copy", ("lost", "g"), "drop", ("twice", "l"), "come", ("lost", "l"), "lose"]
        self.assertEqual(faulty_stands(shared(), run, letters, 4), [
            (2, (("h", 1),)), (2, (("h", 2),)), (2, (("g", 2), ("h", 1))), (2, (("g", 1), ("h", 1))), (2, (("g", 1), ("l", 2))),
            (2, (("g", 1), ("l", 3))), (1, (("g", 1), ("l", 2))), (1, (("g", 1), ("l", 1))), (1, (("l", 2),))])
        self.assertEqual(faulty_stands(letters=letters, most=9, run=run, book=shared()), faulty_stands(shared(), run, letters, 4))
        self.assertEqual(faulty_stands(shared(), [], NONE, 0), [(2, (("h", 1),))])
        self.assertEqual(faulty_stands(shared(-3), [("lost", "h")], {"twice": [], "lost": ["h"]}, 1), [(-3, (("h", 1),)), (-3, ())])

    def test_a_kind_may_be_doubled_and_lost(self):
        letters = {"twice": ["h"], "lost": ["h"]}
        run = [("twice", "h"), ("lost", "h"), ("lost", "h")]
        self.assertEqual([lot for _, lot in faulty_stands(shared(), run, letters, 3)], [(("h", 1),), (("h", 2),), (("h", 1),), ()])

    def test_not_done(self):
        letters = {"twice": ["l", "h"], "lost": ["l"]}
        for run, most, number in [
                (["come"], 5, 0), ([("twice", "l")], 5, 0), ([("lost", "l")], 5, 0), ([("lost", "h")], 5, 0), (["copy", ("twice", "g")], 5, 1),
                ([("twice", "h"), "drop", "drop", "drop"], 5, 3), (["drop", ("lost", "l"), ("lost", "l"), ("lost", "l")], 5, 3),
                (["drop", ("lost", "l"), "zz", "come"], 5, 2), (["copy", "lose", "lose", "lose", ("lost", "l")], 5, 3), ([("twice", "y")], 5, 0),
                ([("twice", "h")], 0, 0), ([("twice", "h"), ("twice", "h")], 1, 1), (["drop", ("lost", "l"), "come", ("lost", "l")], 1, 3),
                ([("twice", "h"), "copy", "lose", ("lost", "l"), "drop", ("twice", "l")], 2, 5), ([("twice", "h"), ("twice", "h"), "zz"], 1, 1),
                ([("twice", "h"), "zz", ("twice", "h")], 1, 1), (["drop", "come", "come", ("twice", "l")], 5, 3)]:
            self.assertEqual(self.check(shared(), run, letters, most), number, run)

    def test_things_that_are_no_moves(self):
        letters = {"twice": ["h", "l"], "lost": ["h", "l"]}
        things = [
            ["twice", "h"], ("twice",), ("twice", "h", "h"), ("twice", "h", 1), ("h", "twice"), ("Twice", "h"), ("double", "h"), ("twice", ["h"]),
            ("twice", ("h",)), (("twice", "h"),), ("twice", None), (None, "h"), "twice", "lost", "h", "twice h", ("drop",), ("drop", "h"), (), [],
            {"twice": "h"}, ("lost", "x"), ("lost", True), ("", "h"), *VALUES]
        for what in things:
            self.assertEqual(self.check(shared(), [what], letters, 3), 0)
            self.assertEqual(self.check(shared(), [("twice", "h"), what, "drop"], letters, 3), 1)
            self.assertEqual(self.check(shared(), ["drop", ("lost", "l"), "come", what], letters, 3), 3)

    def test_values_of_any_sort(self):
        for value in VALUES + [("copy",), {"copy": 1}, "copy", ("twice", "h"), (("twice", "h"),), {("twice", "h"): 1}]:
            if value != []:
                self.assertEqual(self.check(shared(), value, {"twice": ["h"], "lost": []}, 3), 0)

    def test_rules_may_be_called_as_faults_are(self):
        book = book_of(["twice h h 1", "lost h -1"], "h")
        self.assertEqual(faulty_stands(book, ["twice", ("lost", "h")], {"twice": [], "lost": ["h"]}, 1)[-1], (2, ()))
        self.check(book, ["twice", "lost", ("twice", "h")], {"twice": ["h"], "lost": []}, 1)
        self.assertEqual(early_run(book, {"twice": ["h"], "lost": []}, 1)[-1:], ["lost"])

    def test_more_faults_than_three(self):
        letters = {"twice": ["h"], "lost": ["h"]}
        run = [("twice", "h")] * 50 + [("lost", "h")] * 51
        self.assertEqual(self.check(shared(), run, letters, 101), None)
        self.assertEqual(self.check(shared(), run, letters, 100), 100)
        self.assertEqual(self.check(shared(), run, letters, 7), 7)
        self.assertEqual(self.check(shared(), run[:3], letters, 10 ** 50), None)

    def test_without_faults_as_run_stands(self):
        chance = random.Random(81)
        for book in BOOKS:
            run = [what for what in self.drawn_run(book, NONE, chance) if isinstance(what, str)]
            for letters, most in ((NONE, 0), (drawn_letters(book, chance), 0), (drawn_letters(book, chance), 3)):
                try:
                    expected = run_stands(book, run)
                except NotDone as error:
                    self.assertEqual(self.check(book, run, letters, most), error.number)
                else:
                    self.assertEqual(faulty_stands(book, run, letters, most), expected)

    def drawn_run(self, book, letters, chance):
        """Some moves, most of them such that they can be done."""
        moves = [(rule[0], rule[1]) for rule in book.rules]
        moves += [((word, kind), kind) for word in ("twice", "lost") for kind in letters[word]]
        run, slip = [], chance.choice([0, 0, 0.1])
        for _ in range(chance.randint(0, 12)):
            lot = faulty_lots(book, run, letters, 10 ** 9)[0][-1][1]
            done = [move for move, kind in moves if lot[kind] or chance.random() < slip]
            if done:
                run.append(chance.choice(done))
        return run

    def test_many(self):
        chance = random.Random(82)
        told = Counter()
        for book in BOOKS + drawn_books(150, 6, "stuck faults"):
            letters = drawn_letters(book, chance)
            run = self.drawn_run(book, letters, chance)
            bad = self.check(book, run, letters, chance.randint(0, 5))
            told[bad is None, min(3, sum(isinstance(what, tuple) for what in run))] += 1
        self.assertTrue(min(told.values()) > 5 and len(told) > 6, told)

    def test_long_runs(self):
        book = book_of(["copy h hh 1", "drop h -1"], "h")
        run = ["copy"] * 5000 + [("twice", "h")] * 3 + ["drop"] * 5004
        self.assertEqual(faulty_stands(book, run, {"twice": ["h"], "lost": []}, 3)[-1], (-3, ()))


class Early(Checks):
    def test_by_hand(self):
        letter, handle = {"twice": ["l"], "lost": []}, {"twice": ["h"], "lost": []}
        self.check_row(self.check_early, shared(), letter, "never bad bad bad")
        self.check_row(self.check_early, book_of(["drop h l 0", "come l -1"], "h"), letter, "never never never never")
        self.check_row(self.check_early, book_of(["drop h -1"], "h"), handle, "never bad bad bad")
        self.check_row(self.check_early, book_of(["copy h hh 1", "drop h -1"], "h"), handle, "never bad bad bad")
        self.check_row(self.check_early, book_of(["tell h hl 0", "drop h -1", "come l -1"], "h", count=1), letter, "bad bad bad bad")
        self.check_row(self.check_early, book_of(["tell h kl 0", "drop k -1", "come l -1"], "hk", count=3), letter, "never never bad bad")
        self.check_row(self.check_early, book_of(["tell h kl 0", "drop k -1", "come l -1"], "hk", count=4), letter, "never never never bad")
        self.check_row(self.check_early, book_of(["tell h kl 0", "drop k -1", "come l -1"], "hk", count=5), letter, "never never never never")

    def test_shares(self):
        # Two letters, of which either one or both are doubled.
        book = book_of(["tell h klm 0", "drop k -1", "l l -1", "m m -10"], "hk", count=23)
        for twice, expected in [
                ("l", "never never never never"), ("m", "never never bad bad"), ("lm", "never never bad bad"), ("", "never never never never")]:
            self.check_row(self.check_early, book, {"twice": list(twice), "lost": []}, expected)
        book = book_of(["tell h klm 0", "drop k -1", "l l -5", "m m -5"], "hk", count=21)
        self.check_row(self.check_early, book, {"twice": ["l", "m"], "lost": []}, "never never never bad")
        book = book_of(["tell h kl 0", "drop k -1", "l l nn 0", "n n -1"], "hk", count=6)
        self.check_row(self.check_early, book, {"twice": ["l"], "lost": []}, "never never bad bad")
        self.check_row(self.check_early, book, {"twice": ["n"], "lost": []}, "never never never never")
        self.check_row(self.check_early, book, {"twice": ["n", "l"], "lost": []}, "never never bad bad")

    def test_doubled_letters_of_doubled_ones(self):
        # A double is doubled again: eight of them need seven doublings, but three make four.
        book = book_of(["tell h kl 0", "drop k -1", "come l -1"], "hk", count=5)
        self.check_row(self.check_early, book, {"twice": ["l"], "lost": []}, "never never never never bad")

    def test_doubled_handles(self):
        book = book_of(["drop h -3", "sell h s -1", "back s -2"], "h", count=3)
        self.check_row(self.check_early, book, {"twice": ["h"], "lost": []}, "never bad bad bad")
        book = book_of(["drop h -3", "sell h s -1", "back s -2"], "h", count=4)
        self.check_row(self.check_early, book, {"twice": ["h"], "lost": []}, "never never bad bad")
        self.check_row(self.check_early, book, {"twice": ["s"], "lost": []}, "never never never never")

    def test_sinks_only_beside_a_double(self):
        # Nothing is alive any more where it sinks, but the handle's double is.
        book = book_of(["drop h -1", "go h x -1", "fall x x -1", "end x -1"], "h", count=50)
        self.check_row(self.check_early, book, {"twice": ["h"], "lost": []}, "never bad bad bad")
        self.check_row(self.check_early, book, {"twice": ["x"], "lost": []}, "never never never never")
        book = book_of(["a a h 0", "drop h -1", "go h x -1", "fall x xy -1", "end x -1", "y y 0"], "h", start="a", count=9)
        for twice, expected in [("h", "never bad bad bad"), ("a", "never bad bad bad"), ("xy", "never never never never"), ("yha", "never bad bad bad")]:
            self.check_row(self.check_early, book, {"twice": list(twice), "lost": []}, expected)

    def test_sinks_behind_rules_that_raise_the_count(self):
        book = book_of(["up a b 7", "more b h 9", "drop h -17", "go h x -1", "fall x x -1", "end x -1"], "h", start="a", count=1)
        for twice in ("h", "a", "b", "ah"):
            self.check_row(self.check_early, book, {"twice": list(twice), "lost": []}, "never bad bad bad")
        book = book_of(["low a h -7", "drop h -10", "go h x -1", "fall x x -1", "end x -1"], "h", start="a", count=20)
        for twice in ("h", "a", "ah"):
            self.check_row(self.check_early, book, {"twice": list(twice), "lost": []}, "never bad bad bad")

    def test_nothing_alive(self):
        book = book_of(["a h ll -1", "come l -1"], "", count=-5)
        self.assertEqual(self.check_early(book, {"twice": ["h", "l"], "lost": []}, 3, "never"), {"alive": {}, "beside": {}})
        book = book_of(["a h ll -1", "come l -1", "k k -1"], "k", count=0)
        self.assertEqual(self.check_early(book, {"twice": ["h", "l", "k"], "lost": []}, 3, "never"), {"alive": {}, "beside": {}})

    def test_no_letters_and_no_times(self):
        for most in range(4):
            self.check_early(shared(), NONE, most, "never")
            self.check_early(counting(), NONE, most, "bad")
        self.check_early(shared(), {"twice": ["l", "h", "g"], "lost": ["l"]}, 0, "never")
        self.assertEqual(early_run(shared(0), NONE, 0), [])
        self.assertEqual(early_run(shared(-1), {"twice": ["h"], "lost": []}, 3), [])

    def test_losses_do_not_count(self):
        # With a loss the run would be early if anything alive were left by it; and it never is told in one.
        book = book_of(["drop h k -1", "more h hl 1", "k k -1", "come l -1"], "hk", count=3)
        for letters in ({"twice": [], "lost": ["h", "k", "l"]}, NONE):
            self.assertEqual(never_early(book, letters, 3), never_early(book, NONE, 3))
            self.assertEqual(early_run(book, letters, 3), early_run(book, NONE, 3))
        letters = {"twice": ["l"], "lost": ["l", "h"]}
        self.assertEqual(never_early(shared(), letters, 3), never_early(shared(), {"twice": ["l"], "lost": []}, 3))
        self.assertEqual(early_run(shared(), letters, 3), early_run(shared(), {"twice": ["l"], "lost": []}, 3))


class Kept(Checks):
    def test_by_hand(self):
        letter = {"twice": [], "lost": ["l"]}
        self.check_row(self.check_kept, shared(), letter, "never bad bad bad")
        self.check_row(self.check_kept, shared(1), letter, "never never bad bad")
        self.check_row(self.check_kept, shared(0), letter, "never never never never")
        self.check_row(self.check_kept, shared(3), letter, "bad bad bad bad")
        book = book_of(["drop h llll 0", "come l -1"], "h", count=2)
        self.check_row(self.check_kept, book, letter, "never never never bad")
        self.check_row(self.check_kept, book, {"twice": [], "lost": ["h"]}, "never bad bad bad")
        self.check_row(self.check_kept, book, {"twice": [], "lost": ["h", "l"]}, "never bad bad bad")
        self.check_row(self.check_kept, book, NONE, "never never never never")

    def test_shares(self):
        book = book_of(["tell h lm 0", "l l nn 0", "n n -2", "m m -5"], "h", count=3)
        for lost, expected in [
                ("l", "never never never never"), ("m", "never never never never"), ("n", "never never never never"), ("lm", "never never bad bad"),
                ("nm", "never never bad bad"), ("lmn", "never never bad bad"), ("h", "never bad bad bad")]:
            self.check_row(self.check_kept, book, {"twice": [], "lost": list(lost)}, expected)
        book = book_of(["tell h lm 0", "l l nn 0", "n n -2", "m m -5"], "h", count=1)
        for lost, expected in [("l", "never never never never"), ("nm", "never never never bad"), ("lm", "never never bad bad")]:
            self.check_row(self.check_kept, book, {"twice": [], "lost": list(lost)}, expected)

    def test_a_loss_may_be_worse_than_any_rule(self):
        book = book_of(["up h 5", "down h -9"], "", count=-5)
        self.check_row(self.check_kept, book, {"twice": [], "lost": ["h"]}, "never never never never")
        book = book_of(["up h l 5", "down h -9", "l l -9"], "", count=-4)
        self.check_row(self.check_kept, book, {"twice": [], "lost": ["l"]}, "never bad bad bad")
        self.check_row(self.check_kept, book, {"twice": [], "lost": ["h"]}, "never never never never")

    def test_rises_without_faults(self):
        book = book_of(["more h h 1", "drop h -9"], "h", count=1)
        self.check_row(self.check_kept, book, {"twice": [], "lost": ["h"]}, "bad bad bad bad")
        self.check_row(self.check_kept, book, NONE, "bad bad bad bad")
        self.check_kept(book_of(["more y y 1", "end y 0", "drop h -1"], "h"), NONE, 2, "never")

    def test_losses_that_let_something_go_on(self):
        # What is lost beside it goes ahead again and again, but a loss can't.
        book = book_of(["round h hl 2", "come l -2", "drop h -1"], "h", count=1)
        self.check_row(self.check_kept, book, {"twice": [], "lost": ["l"]}, "never bad bad bad")
        book = book_of(["round h hl 2", "come l -2", "drop h -6"], "h", count=1)
        self.check_row(self.check_kept, book, {"twice": [], "lost": ["l"]}, "never never never bad")

    def test_no_letters_and_no_times(self):
        for most in range(4):
            self.check_kept(shared(), NONE, most, "never")
            self.check_kept(shared(4), NONE, most, "bad")
        self.check_kept(shared(), {"twice": ["l", "h", "g"], "lost": ["l", "h", "g"]}, 0, "never")

    def test_doublings_do_not_count(self):
        letters = {"twice": ["l", "h", "g"], "lost": []}
        self.assertEqual(never_kept(shared(), letters, 3), never_kept(shared(), NONE, 3))
        self.assertIs(kept_run(shared(), letters, 3), None)
        letters = {"twice": ["h", "g"], "lost": ["l"]}
        self.assertEqual(kept_run(shared(), letters, 3), kept_run(shared(), {"twice": [], "lost": ["l"]}, 3))


class Many(Checks):
    def test_papers_or_runs(self):
        chance = random.Random(83)
        told = Counter()
        for book in BOOKS:
            letters = drawn_letters(book, chance)
            for most in range(4):
                early = "bad" if never_early(book, letters, most) is None else "never"
                self.check_early(book, letters, most, early)
                kept = "bad" if never_kept(book, letters, most) is None else "never"
                self.check_kept(book, letters, most, kept)
                told[most, "early", early] += 1
                told[most, "kept", kept] += 1
        self.assertTrue(min(told.values()) > 20 and len(told) == 16, told)

    def test_all_short_faulty_runs(self):
        chance = random.Random(84)
        told = Counter()
        for book in SMALL[:200]:
            letters, most = drawn_letters(book, chance), chance.randint(0, 3)
            early = faulty_marks(book, {**letters, "lost": []}, most, 6, 1500) & {"early"}
            kept = faulty_marks(book, {**letters, "twice": []}, most, 6, 1500) & {"kept"}
            found = early_run(book, letters, most)
            self.assertFalse(early and found is None, (book.rules, letters, most))
            self.assertTrue(early or found is None or len(found) > 3, (book.rules, letters, most))
            found = kept_run(book, letters, most)
            self.assertFalse(kept and found is None, (book.rules, letters, most))
            self.assertTrue(kept or found is None or len(found) > 3, (book.rules, letters, most))
            told[bool(early), bool(kept)] += 1
        self.assertTrue(min(told.values()) > 10 and len(told) == 4, told)

    def test_more_letters_and_times_make_nothing_better(self):
        chance = random.Random(85)
        for book in BOOKS[:200]:
            letters = drawn_letters(book, chance)
            more = {word: kinds + [kind for kind in book.kinds if kind not in kinds and chance.random() < 0.5] for word, kinds in letters.items()}
            for ask in (never_early, never_kept):
                rows = [[ask(book, each, most) is None for most in range(4)] for each in (NONE, letters, more)]
                for row in rows:
                    self.assertEqual(row, sorted(row))
                for row in zip(*rows):
                    self.assertEqual(list(row), sorted(row))
                self.assertEqual(len(set(rows[0])), 1)

    def test_numbers_are_least_ones(self):
        # The start's number can't be told greater: just so small a count makes a run bad.
        chance = random.Random(86)
        told = Counter()
        for book in BOOKS[:250]:
            letters, most = drawn_letters(book, chance), chance.randint(0, 3)
            for ask, check, step in ((never_early, self.check_early, -1), (never_kept, self.check_kept, 1)):
                paper = ask(book, letters, most)
                if paper is None or (ask == never_early and book.start not in living(book)):
                    continue
                number = (paper["alive"] if ask == never_early else paper)[book.start, most]
                edge = 1 - number if ask == never_early else -number
                check(Book(book.kinds, book.handles, book.rules, book.start, edge), letters, most, "never")
                check(Book(book.kinds, book.handles, book.rules, book.start, edge + step), letters, most, "bad")
                told[ask] += 1
        self.assertTrue(min(told.values()) > 50, told)

    def test_large_books(self):
        letters = {"twice": ["a", "c", "j"], "lost": ["b", "j"]}
        book = ladder(4, -1, count=4 ** 9)
        self.check_early(book, letters, 0, "never")
        self.check_kept(book, letters, 0, "never")
        for most in (1, 3):
            self.assertEqual(len(faulty_stands(book, early_run(book, letters, most), letters, most)[-1]), 2)
            self.assertEqual(faulty_stands(book, kept_run(book, letters, most), letters, most)[-1][1], ())
        book = ladder(4, -1, count=4 ** 10)
        self.check_early(book, letters, 3, "never")
        self.check_kept(ladder(4, -1, count=0), letters, 3, "never")

    def test_twenty_rules(self):
        chance = random.Random(87)
        kinds = "abcdefghij"
        for _ in range(12):
            weight = {kind: chance.randint(1, 40) for kind in kinds}
            moves = [(kind * 2, kind, tuple(chance.choice(kinds[:at] or "a") for _ in range(4 * (at > 0)))) for at, kind in enumerate(kinds)]
            moves += [("x" + kind, kind, tuple(chance.choice(kinds) for _ in range(4))) for kind in kinds]
            rules = [(*move, sum(weight[part] for part in move[2]) - weight[move[1]]) for move in moves]
            letters = {"twice": ["a", "d"], "lost": ["b", "j"]}
            book = Book(list(kinds), ["b", "c", "f"], rules, "j", weight["j"] + 100)
            self.check_early(book, letters, 3, "bad" if never_early(book, letters, 3) is None else "never")
            book = Book(list(kinds), ["b", "c", "f"], rules, "j", weight["j"] - 60)
            self.check_kept(book, letters, 3, "bad" if never_kept(book, letters, 3) is None else "never")


class Judges(Checks):
    def check_both(self, book, letters, most, value):
        expected = never_early_holds(book, letters, most, value)
        self.assertIs(is_never_early(book, letters, most, value), expected, (book.rules, letters, most, value))
        kept = never_kept_holds(book, letters, most, value)
        self.assertIs(is_never_kept(book, letters, most, value), kept, (book.rules, letters, most, value))
        return expected, kept

    def test_never_early_by_hand(self):
        book = book_of(["tell h kl 0", "drop k -1", "come l -1"], "hk", count=3)
        letters = {"twice": ["l"], "lost": []}
        good = {
            "alive": {("h", 1): -2, ("h", 0): -1, ("k", 0): 0, ("k", 1): 0},
            "beside": {("l", 0): -1, ("l", 1): -2, ("k", 0): -1, ("k", 1): -1},
        }
        self.assertIs(is_never_early(book, letters, 1, good), True)
        self.assertIs(is_never_early(value=good, most=1, letters=letters, book=book), True)
        for table, key, worth, expected in [
                ("alive", ("h", 1), -1, False), ("alive", ("h", 1), -3, False), ("alive", ("h", 0), -2, True), ("alive", ("h", 0), 0, False),
                ("alive", ("h", 0), None, True), ("alive", ("k", 0), None, False), ("alive", ("k", 1), None, False), ("alive", ("h", 1), None, False),
                ("alive", ("k", 0), 1, False), ("alive", ("k", 0), -1, False), ("beside", ("k", 0), None, True), ("beside", ("l", 0), None, False),
                ("beside", ("l", 1), None, False), ("beside", ("l", 1), -1, False), ("beside", ("l", 1), -3, False), ("beside", ("l", 0), 0, False),
                ("beside", ("h", 0), -2, True), ("beside", ("h", 0), -1, False), ("beside", ("h", 1), -3, True), ("beside", ("h", 1), -2, False),
                ("alive", ("l", 0), 0, False), ("alive", ("l", 0), -5, False), ("alive", ("h", 2), -2, False), ("beside", ("k", 2), -1, False),
                ("beside", ("k", -1), -1, False), ("beside", ("y", 0), -1, False), ("beside", "k", -1, False), ("beside", ("k",), -1, False),
                ("beside", ("k", 0, 0), -1, False), ("beside", ("k", None), -1, False), ("beside", (0, "k"), -1, False), ("beside", ("k", "0"), -1, False),
                ("beside", (("k", 0), 0), -1, False), ("beside", ("k", 0), True, False), ("beside", ("k", 0), "-1", False), ("alive", ("k", 0), False, False)]:
            value = copy.deepcopy(good)
            if worth is None:
                del value[table][key]
            else:
                value[table][key] = worth
            self.assertIs(self.check_both(book, letters, 1, value)[0], expected, (table, key, worth))

    def test_keys_with_bools_are_none(self):
        book, letters = book_of(["drop h -1"], "h"), NONE
        self.assertIs(is_never_early(book, letters, 0, {"alive": {("h", 0): 0}, "beside": {}}), True)
        self.assertIs(is_never_early(book, letters, 0, {"alive": {("h", False): 0}, "beside": {}}), False)
        self.assertIs(is_never_early(book, letters, 1, {"alive": {("h", True): 0}, "beside": {}}), False)
        self.assertIs(is_never_early(book, letters, 1, {"alive": {("h", 1): 0}, "beside": {}}), True)
        self.assertIs(is_never_kept(book, letters, 1, {("h", 1): -1}), True)
        self.assertIs(is_never_kept(book, letters, 1, {("h", True): -1}), False)
        self.assertIs(is_never_kept(book, letters, 0, {("h", False): -1}), False)

    def test_doublings_in_alive_and_beside(self):
        # The double stands beside, with either share of what is left behind the doubling.
        book = book_of(["drop h -1"], "h", count=3)
        letters = {"twice": ["h"], "lost": []}
        good = {
            "alive": {("h", 0): 0, ("h", 1): -1, ("h", 2): -2},
            "beside": {("h", 0): -1, ("h", 1): -2, ("h", 2): -3},
        }
        self.assertEqual(self.check_both(book, letters, 2, good), (True, False))
        for table, key in [(table, key) for table in good for key in good[table]]:
            for step in (-1, 1, None):
                value = copy.deepcopy(good)
                if step is None:
                    del value[table][key]
                else:
                    value[table][key] += step
                expected = (table, key) == ("beside", ("h", 2)) and step != 1
                self.assertIs(self.check_both(book, letters, 2, value)[0], expected, (table, key, step))
        self.assertIs(is_never_early(book, NONE, 2, {"alive": {("h", 2): 0}, "beside": {}}), True)
        self.assertIs(is_never_early(book, letters, 2, {"alive": {("h", 2): 0}, "beside": {}}), False)

    def test_never_kept_by_hand(self):
        book = book_of(["drop h ll 0", "come l -2"], "h", count=2)
        letters = {"twice": [], "lost": ["l"]}
        good = {("h", 0): -4, ("h", 1): -2, ("l", 0): -2, ("l", 1): 0}
        self.assertEqual(self.check_both(book, letters, 1, good), (False, True))
        self.assertIs(is_never_kept(value=good, most=1, letters=letters, book=book), True)
        for key, worth, expected in [
                (("h", 1), -1, False), (("h", 1), -3, False), (("h", 0), -5, False), (("h", 0), -3, True), (("h", 0), 9, True), (("h", 0), None, True),
                (("l", 0), -3, False), (("l", 0), -1, False), (("l", 0), None, False), (("l", 1), None, False), (("l", 1), -1, False), (("l", 1), 1, False),
                (("h", 1), None, False), (("h", 2), 0, False), (("h", -1), 0, False), (("y", 0), 0, False), ("h", 0, False), (("h",), 0, False),
                (("h", 0), True, False), (("h", 0), "0", False), (("h", None), 0, False), (("l", 0, 0), 0, False), (None, 0, False), (0, 0, False)]:
            value = dict(good)
            if worth is None:
                del value[key]
            else:
                value[key] = worth
            self.assertIs(self.check_both(book, letters, 1, value)[1], expected, (key, worth))
        self.assertIs(is_never_kept(book, NONE, 1, {("h", 1): -4, ("l", 0): -2, ("l", 1): -2}), True)
        self.assertIs(is_never_kept(book, letters, 1, {("h", 1): -4, ("l", 0): -2, ("l", 1): -2}), False)

    def test_a_loss_counts_from_one_left_on(self):
        book = book_of(["drop h -1"], "", count=0)
        letters = {"twice": [], "lost": ["h"]}
        self.assertIs(is_never_kept(book, letters, 0, {("h", 0): -1}), True)
        self.assertIs(is_never_kept(book, letters, 1, {("h", 0): -1, ("h", 1): 0}), True)
        self.assertIs(is_never_kept(book, letters, 1, {("h", 0): -1, ("h", 1): -1}), False)
        self.assertIs(is_never_kept(book, letters, 1, {("h", 1): 0}), True)

    def test_values_of_any_sort(self):
        for book in (shared(), book_of(["drop h -1"], "h"), book_of(["drop h -1"], "")):
            for letters in (NONE, {"twice": ["h"], "lost": ["h"]}):
                for value in VALUES + [
                        never_early(book, letters, 1), never_kept(book, letters, 1), early_run(book, letters, 1), kept_run(book, letters, 1),
                        {"alive": {}}, {"alive": {}, "beside": {}, "roof": {}}, {"alive": [], "beside": {}}, {"alive": {}, "beside": None},
                        {"alive": {}, "others": {}}, {"alive": {}, "beside": []}, {"alive": {}, "beside": {}}, [("alive", {}), ("beside", {})]]:
                    self.check_both(book, letters, 1, value)

    def test_one_thing_exchanged(self):
        chance = random.Random(88)
        told = Counter()
        for book in BOOKS:
            letters, most = drawn_letters(book, chance), chance.randint(0, 3)
            others = book.kinds + [(kind, left) for kind in book.kinds for left in (0, 1)]
            for ask, at in ((never_early, 0), (never_kept, 1)):
                found = ask(book, letters, most)
                for _ in range(12 if found is not None else 0):
                    value = exchanged(found, chance, others)
                    told[at, self.check_both(book, letters, most, value)[at]] += 1
        self.assertTrue(min(told.values()) > 50 and len(told) == 4, told)

    def test_each_number_key_share_exchanged(self):
        chance = random.Random(89)
        told = Counter()
        for book in SMALL[:70]:
            letters, most = drawn_letters(book, chance), chance.randint(1, 2)
            papers = [never_early(book, letters, most), never_kept(book, letters, most)]
            for value in self.near(papers[0]):
                told["early", self.check_both(book, letters, most, value)[0]] += 1
            for value in self.near_table(papers[1] or {}):
                told["kept", self.check_both(book, letters, most, value)[1]] += 1
        self.assertTrue(min(told.values()) > 50 and len(told) == 4, told)

    def near(self, paper):
        for key in paper or {}:
            for table in self.near_table(paper[key]):
                yield {**paper, key: table}

    def near_table(self, table):
        for key in table:
            rest = {other: number for other, number in table.items() if other != key}
            yield rest
            for step in (-1, 1):
                yield {**rest, key: table[key] + step}
                yield {**table, (key[0], key[1] + step): table[key]}
                yield {**rest, (key[0], key[1] + step): table[key]}

    def test_papers_for_other_questions(self):
        chance = random.Random(90)
        told = Counter()
        for book in SMALL[:60]:
            cases = [(drawn_letters(book, chance), most) for most in (0, 1, 2)]
            found = [ask(book, *case) for case in cases for ask in (never_early, never_kept)]
            for letters, most in cases:
                for value in found:
                    told[self.check_both(book, letters, most, value)] += 1
                    less = {**letters, "twice": letters["twice"][1:], "lost": letters["lost"][1:]}
                    self.check_both(book, less, most, value)
        self.assertTrue(min(told[True, False], told[False, True], told[False, False]) > 20, told)

    def test_papers_of_other_books(self):
        letters, chance = NONE, random.Random(91)
        for book, other in zip(SMALL, SMALL[1:]):
            if book.kinds == other.kinds or chance.random() < 0.2:
                for value in (never_early(other, letters, 1), never_kept(other, letters, 1)):
                    self.check_both(book, letters, 1, value)


class Errors(unittest.TestCase):
    QUESTIONS = (never_early, early_run, never_kept, kept_run)

    def asks(self):
        """All calls that take a book, letters and most."""
        yield lambda *told: faulty_stands(told[0], None, *told[1:])
        yield lambda *told: faulty_stands(told[0], [], *told[1:])
        yield from self.ends_only()

    def ends_only(self):
        yield from self.QUESTIONS
        yield lambda *told: is_never_early(*told, None)
        yield lambda *told: is_never_kept(*told, {})

    def raised(self, error, name, ask, *told):
        with self.assertRaises(error, msg=repr(told)) as caught:
            ask(*told)
        return getattr(caught.exception, name)

    def test_bad_letters(self):
        bad = [
            {"twice": []}, {"lost": []}, {}, {"twice": [], "lost": [], "late": []}, {"twice": [], "loss": []}, {"twice": (), "lost": []},
            {"twice": [], "lost": ()}, {"twice": ["h", "h"], "lost": []}, {"twice": [], "lost": ["l", "h", "l"]}, {"twice": ["y"], "lost": []},
            {"twice": [], "lost": ["h", "y"]}, {"twice": "h", "lost": []}, {"twice": {"h": 1}, "lost": []}, {"twice": [], "lost": None},
            {"twice": [["h"]], "lost": []}, {"twice": [("h",)], "lost": []}, {"twice": [None], "lost": []}, {"twice": [True], "lost": []},
            {"twice": ("h",), "lost": ["l"]}, {"twice": [], "lost": [0]}, {"twice": [], None: []}, [("twice", []), ("lost", [])], ["twice", "lost"],
            ("twice", "lost"), {"Twice": [], "lost": []}, {"twice": ["copy"], "lost": []}, {"twice": [[]], "lost": [{}]}]
        for value in bad + VALUES:
            for ask in self.asks():
                self.assertIs(self.raised(BadLetters, "value", ask, shared(), value, 1), value)
                self.assertIs(self.raised(BadLetters, "value", ask, shared(), value, None), value)
        for letters in (NONE, {"lost": ["h"], "twice": ["l", "h", "g"]}, {"twice": ["h", "l"], "lost": ["g", "l"]}):
            for ask in self.ends_only():
                ask(shared(), letters, 1)

    def test_bad_times(self):
        for value in VALUES + [-1, -10 ** 30, True, False, None, "1", [1], (1,), {1: 1}]:
            if type(value) is not int or value < 0:
                for ask in self.asks():
                    self.assertIs(self.raised(BadTimes, "value", ask, shared(), NONE, value), value)
                    self.assertIs(self.raised(BadTimes, "value", ask, book_of([], "h"), NONE, value), value)

    def test_no_end(self):
        book = book_of(["drop h -1", "jam m x 0", "b b bb 1", "c c hm 0"], "h")
        self.assertEqual(ending(book), ["h"])
        for ask in self.ends_only():
            self.assertEqual(self.raised(NoEnd, "name", ask, book, NONE, 0), "b")
            self.assertEqual(self.raised(NoEnd, "name", ask, book, {"twice": ["h", "b"], "lost": ["x"]}, 3), "b")
            self.assertEqual(self.raised(NoEnd, "name", ask, Book(["z", "h", "y"], [], [("drop", "h", (), -1)], "h", 1), NONE, 0), "y")
            self.assertEqual(self.raised(BadTimes, "value", ask, book, NONE, -2), -2)
            self.assertEqual(self.raised(BadLetters, "value", ask, book, 7, -2), 7)
        self.assertEqual(faulty_stands(book, [("lost", "h")], {"twice": [], "lost": ["h"]}, 1)[-1], (1, ()))
        self.assertEqual(faulty_stands(book_of([], "h"), [("twice", "h")], {"twice": ["h"], "lost": []}, 1)[-1], (1, (("h", 2),)))

    def test_orders_of_errors(self):
        for run in (None, ["zz"], [("twice", "h")]):
            self.assertEqual(self.raised(BadLetters, "value", faulty_stands, shared(), run, {}, -1), {})
            self.assertEqual(self.raised(BadTimes, "value", faulty_stands, shared(), run, NONE, -1), -1)
            self.assertEqual(self.raised(NotDone, "number", faulty_stands, shared(), run, NONE, 1), 0)


class Copies(Checks):
    def test_orders_make_no_difference(self):
        chance = random.Random(92)
        for book in BOOKS[:250]:
            letters, most = drawn_letters(book, chance), chance.randint(0, 3)
            other = {word: chance.sample(letters[word], len(letters[word])) for word in ("lost", "twice")}
            for ask in (never_early, early_run, never_kept, kept_run):
                self.assertEqual(ask(turned(book, chance), other, most), ask(book, letters, most))

    def test_results_are_new_and_arguments_stay(self):
        chance = random.Random(93)
        for book in BOOKS[:120]:
            letters, most = drawn_letters(book, chance), chance.randint(0, 3)
            for ask in (never_early, early_run, never_kept, kept_run):
                before = copy.deepcopy((book.rules, letters, ask(book, letters, most)))
                found = ask(book=book, letters=letters, most=most)
                if isinstance(found, list):
                    found.append("y")
                elif found is not None:
                    for part in [value for value in found.values() if isinstance(value, dict)] + [found]:
                        part.clear()
                self.assertEqual((book.rules, letters, ask(book, letters, most)), before)

    def test_kinds_of_values(self):
        letters = {"twice": ["l"], "lost": ["l"]}
        paper = never_early(shared(), letters, 0)
        self.assertEqual((type(paper), sorted(paper)), (dict, ["alive", "beside"]))
        for table in (paper["alive"], paper["beside"], never_kept(shared(), letters, 0)):
            self.assertEqual((type(table), {type(key) for key in table}, {type(number) for number in table.values()}), (dict, {tuple}, {int}))
        stands = faulty_stands(shared(), [("twice", "h")], {"twice": ["h"], "lost": []}, 1)
        self.assertEqual([type(stands), type(stands[0]), type(stands[0][1]), type(stands[0][1][0])], [list, tuple, tuple, tuple])
        stands.clear()
        self.assertEqual(len(faulty_stands(shared(), [("twice", "h")], {"twice": ["h"], "lost": []}, 1)), 2)

    def test_judges_and_stands_change_nothing(self):
        letters, run = {"twice": ["l"], "lost": ["h"]}, [("lost", "h")]
        paper, roof = never_early(shared(), letters, 0), never_kept(shared(0), letters, 1)
        told = copy.deepcopy((letters, run, paper, roof))
        faulty_stands(shared(), run, letters, 1)
        self.assertIs(is_never_early(shared(), letters, 0, paper), True)
        self.assertIs(is_never_kept(shared(0), letters, 1, roof), True)
        self.assertEqual((letters, run, paper, roof), told)
