"""Promises [3], [17], [19] and stage 10 of the interface: texts of books, and books of texts."""

import random
import re
import unittest
from collections import Counter

from farhandles.books import Book
from farhandles.errors import BadLine, HandleError
from farhandles.texts import format_book, read_book
from tests.samples import VALUES, counting, drawn_books, some_books

BOOKS = drawn_books(200, 6, "texts") + some_books(60, 8, 10, 4)
TEXT = "kinds h l x\nhandles h x\nstart h -12\ncopy h to h h l by 0\ndrop h to - by -1\ncome l to x by 305"


def plain_first_bad(text):
    """The number of the first line with which the lines begin no text, None if the text is one; by patterns."""
    if not isinstance(text, str):
        return 1
    lines = text.split("\n")
    name, number = "[a-z]{1,8}", "(?:0|-?[1-9][0-9]*)"
    if not re.fullmatch(f"kinds(?: {name})+", lines[0]):
        return 1
    kinds = lines[0].split()[1:]
    if len(set(kinds)) < len(kinds):
        return 1
    kind = "(?:" + "|".join(kinds) + ")"
    if len(lines) < 2 or not re.fullmatch(f"handles(?: {kind})*", lines[1]):
        return 2
    handles = lines[1].split()[1:]
    if len(set(handles)) < len(handles):
        return 2
    if len(lines) < 3 or not re.fullmatch(f"start {kind} {number}", lines[2]):
        return 3
    names = set()
    for at, line in enumerate(lines[3:], 4):
        if not re.fullmatch(f"{name} {kind} to (?:-|{kind}(?: {kind})*) by {number}", line):
            return at
        if line.split()[0] in names:
            return at
        names.add(line.split()[0])
    return None


class Checks(unittest.TestCase):
    def check_bad(self, text, line):
        with self.assertRaises(BadLine, msg=repr(text)) as caught:
            read_book(text)
        self.assertEqual((caught.exception.line, type(caught.exception.line)), (line, int), repr(text))
        self.assertEqual(plain_first_bad(text), line, repr(text))

    def check_any(self, text):
        """A text with its book, or the first bad line."""
        line = plain_first_bad(text)
        if line is not None:
            self.check_bad(text, line)
        else:
            self.assertEqual(format_book(read_book(text)), text)
        return line

    def change(self, number, line):
        """The text with another line, or without this one."""
        lines = TEXT.split("\n")
        lines[number - 1:number] = [] if line is None else [line]
        return "\n".join(lines)


class Format(unittest.TestCase):
    def test_example(self):
        book = Book(["h", "l"], ["h"], [("drop", "h", ("l",), 0), ("come", "l", (), -1)], "h", 1)
        expected = ["kinds h l", "handles h", "start h 1", "drop h to l by 0", "come l to - by -1"]
        self.assertEqual([format_book(book).split("\n"), read_book(format_book(book)) == book], [expected, True])

    def test_least_books(self):
        self.assertEqual(format_book(Book(["a"], [], [], "a", 0)), "kinds a\nhandles\nstart a 0")
        self.assertEqual(format_book(Book(["a"], ["a"], [], "a", -7)), "kinds a\nhandles a\nstart a -7")
        self.assertEqual(format_book(book=Book(["a"], [], [("r", "a", (), 0)], "a", 1)), "kinds a\nhandles\nstart a 1\nr a to - by 0")

    def test_orders_are_those_of_the_book(self):
        book = Book(("z", "to", "by"), ["by", "z"], [("kinds", "to", ("z", "by", "z", "to"), -30), ("by", "by", ("by",), 4), ("a", "z", (), 0)], "to", 10)
        self.assertEqual(
            format_book(book),
            "kinds z to by\nhandles by z\nstart to 10\nkinds to to z by z to by -30\nby by to by by 4\na z to - by 0")

    def test_text_of_a_text(self):
        self.assertEqual(format_book(read_book(TEXT)), TEXT)

    def test_numbers(self):
        for number in [0, 1, -1, 9, 10, -10, 99, 100, 10 ** 59, 10 ** 60 - 1, 10 ** 60, 10 ** 60 + 7, -10 ** 60, 10 ** 61, 3 * 10 ** 119, 10 ** 120,
                       10 ** 120 - 1, 7 ** 300, -7 ** 300, 10 ** 999 - 1, -10 ** 999, 10 ** 999 + 10 ** 500]:
            text = format_book(Book(["a"], [], [("r", "a", (), -number)], "a", number))
            self.assertEqual(text, f"kinds a\nhandles\nstart a {number}\nr a to - by {-number}")
            book = read_book(text)
            self.assertEqual((book.amount, book.rules), (number, [("r", "a", (), -number)]))

    def test_numbers_of_very_many_figures(self):
        number = 1
        for _ in range(7000):
            number *= 10
        text = format_book(Book(["a"], [], [], "a", -number))
        self.assertEqual(text, "kinds a\nhandles\nstart a -1" + "0" * 7000)
        self.assertEqual(read_book(text).amount, -number)
        self.assertEqual(read_book("kinds a\nhandles\nstart a " + "9" * 7000).amount, number - 1)

    def test_many_books(self):
        for book in BOOKS:
            text = format_book(book)
            self.assertIs(type(text), str)
            other = read_book(text)
            self.assertEqual(
                [other.kinds, other.handles, other.rules, other.start, other.amount],
                [book.kinds, book.handles, book.rules, book.start, book.amount])
            self.assertEqual((other, format_book(other)), (book, text))
            self.assertIs(plain_first_bad(text), None)

    def test_large_books(self):
        letters = "abcdefghijklmnopqrstuvwxyz"
        names = [one + two + three for one in letters[:8] for two in letters for three in letters]
        rules = [(name, name, (after,) * (at % 7), at - 50) for at, (name, after) in enumerate(zip(names, names[1:]))]
        book = Book(names, names[::2], rules, names[-1], 10 ** 70)
        other = read_book(format_book(book))
        self.assertEqual((other, other.kinds, other.handles, other.rules), (book, names, names[::2], rules))
        text = format_book(book)
        self.check_late(text, len(names) + 2)

    def check_late(self, text, last):
        for bad, line in ((text + "\n", last + 1), (text + "\n" + text.split("\n")[7], last + 1), (text.replace("by 50", "by 050"), 104)):
            with self.assertRaises(BadLine) as caught:
                read_book(bad)
            self.assertEqual(caught.exception.line, line)


class Read(Checks):
    def test_books(self):
        book = read_book(TEXT)
        self.assertIs(type(book), Book)
        self.assertEqual((book.kinds, book.handles, book.start, book.amount), (["h", "l", "x"], ["h", "x"], "h", -12))
        self.assertEqual(book.rules, [("copy", "h", ("h", "h", "l"), 0), ("drop", "h", (), -1), ("come", "l", ("x",), 305)])
        book = read_book(text="kinds by to\nhandles\nstart to 0\nto to to to to by by by 5\nby by to - by -5")
        self.assertEqual((book.kinds, book.handles, book.start, book.amount), (["by", "to"], [], "to", 0))
        self.assertEqual(book.rules, [("to", "to", ("to", "to", "by", "by"), 5), ("by", "by", (), -5)])
        self.assertEqual(read_book("kinds a\nhandles a\nstart a 0"), Book(["a"], ["a"], [], "a", 0))

    def test_no_strings(self):
        for value in [value for value in VALUES if not isinstance(value, str)] + [b"kinds h", ["kinds h"], TEXT.split("\n"), (TEXT,), counting()]:
            self.check_bad(value, 1)

    def test_strings_of_any_sort(self):
        for value in [value for value in VALUES if isinstance(value, str)] + ["kinds", "kinds ", "h", " kinds h", "kindsh", "kinds\th", "Kinds h", "kinds\nh"]:
            self.check_bad(value, 1)

    def test_too_few_lines(self):
        self.check_bad("", 1)
        self.check_bad("kinds h", 2)
        self.check_bad("kinds h\n", 2)
        self.check_bad("kinds h\nhandles", 3)
        self.check_bad("kinds h\nhandles h", 3)
        self.check_bad("kinds h\nhandles h\n", 3)
        self.check_bad("kinds h\n\nhandles h\nstart h 1", 2)
        self.check_bad("\nkinds h\nhandles h\nstart h 1", 1)

    def test_too_many_lines(self):
        self.check_bad("kinds h\nhandles h\nstart h 1\n", 4)
        self.check_bad("kinds h\nhandles h\nstart h 1\n\n", 4)
        self.check_bad(TEXT + "\n", 7)
        self.check_bad(TEXT + "\n\n", 7)
        self.check_bad(TEXT + "\n ", 7)
        self.check_bad(TEXT.replace("\ndrop", "\n\ndrop"), 5)
        self.check_bad(TEXT + "\nstart h 1", 7)
        self.check_bad(TEXT + "\n" + TEXT, 7)

    def test_kinds_line(self):
        for line in [
                "kinds", "kinds ", " kinds h l x", "kinds h l x ", "kinds h  l x", "kinds  h l x", "kinds h l x h", "kinds h h l x", "kinds\th l x",
                "kinds h\tl x", "kinds h,l,x", "kinds h l x\r", "kinds H l x", "kinds h l x1", "kinds h l xxxxxxxxx", "kinds h l -", "kind h l x",
                "Kinds h l x", "kinds: h l x", "handles h l x", "h l x", "", "kinds h l x 1", "kinds h l x_", "start h 1", "kindsh l x"]:
            self.check_bad(self.change(1, line), 1)
        self.check_bad(self.change(1, None), 1)
        self.check_bad(self.change(1, "kinds h l x\nkinds h l x"), 2)
        self.assertEqual(read_book(self.change(1, "kinds x l h")).kinds, ["x", "l", "h"])
        self.assertEqual(read_book(self.change(1, "kinds h l x abcdefgh")).kinds, ["h", "l", "x", "abcdefgh"])

    def test_handles_line(self):
        for line in [
                "handles ", " handles", "handles h  x", "handles  h x", "handles h x ", "handles h h", "handles h x h", "handles h y", "handles y",
                "handles h\tx", "handles\th", "handle h x", "Handles h x", "handles h x 1", "handles -", "handles h x\r", "", "kinds h l x", "start h 1",
                "handles H", "handles h,x", "handles hx", "handles h x -"]:
            self.check_bad(self.change(2, line), 2)
        self.check_bad(self.change(2, None), 2)
        self.check_bad(self.change(2, "handles h x\nhandles h x"), 3)
        self.assertEqual(read_book(self.change(2, "handles")).handles, [])
        self.assertEqual(read_book(self.change(2, "handles x l h")).handles, ["x", "l", "h"])

    def test_start_line(self):
        for line in [
                "start", "start ", "start h", "start h ", "start 1", "start h 1 ", " start h 1", "start  h 1", "start h  1", "start y 1", "start h 1 1",
                "start h l 1", "start h\t1", "Start h 1", "starts h 1", "start H 1", "start h one", "start h x", "start - 1", "", "drop h to - by -1",
                "handles h", "start h 1\r", "start h -", "start h --1", "start h - 1", "start 1 h"]:
            self.check_bad(self.change(3, line), 3)
        self.check_bad(self.change(3, None), 3)
        self.check_bad(self.change(3, "start h 1\nstart h 1"), 4)
        self.assertEqual(read_book(self.change(3, "start l 0")).start, "l")

    def test_numbers(self):
        for word in [
                "+1", "01", "-0", "00", "-01", "1.0", "1e3", "1_0", "0x1", " 1", "1 ", "", "-", "--1", "- 1", "1-", "-1-", "1,000", "one", "True", "None",
                "\u0661", "1\u0660", "\u00b2", "+0", "000", "-00", "-+1", "1h", "h1", "1" * 60 + "x", "0" + "1" * 70, "1" * 65 + "_1"]:
            self.check_bad(self.change(3, f"start h {word}"), 3)
            self.check_bad(self.change(5, f"drop h to - by {word}"), 5)
        for word in ["0", "1", "-1", "10", "-10", "100", "9" * 60, "1" + "0" * 60, "-" + "12" * 90, "9" * 999, "1" + "0" * 999]:
            self.assertEqual(read_book(self.change(3, f"start h {word}")).amount, int(word))
            self.assertEqual(read_book(self.change(5, f"drop h to - by {word}")).rule_named("drop")[3], int(word))

    def test_rule_lines(self):
        for line in [
                "drop h to by -1", "drop h to  by -1", "drop h by -1", "drop h to - by", "drop h to - by ", "drop h to - -1", "drop h - by -1", "drop to - by -1",
                "h to - by -1", "drop h to - - by -1", "drop h to h - by -1", "drop h to - h by -1", "drop y to - by -1", "drop h to y by -1",
                "drop h to h y by -1", "drop h to y h by -1", "copy h to - by -1", "Drop h to - by -1", "droppings h to - by -1", "dr0p h to - by -1",
                " drop h to - by -1", "drop h to - by -1 ", "drop  h to - by -1", "drop h  to - by -1", "drop h to  - by -1", "drop h to -  by -1",
                "drop h to - by  -1", "drop\th to - by -1", "drop h to\t- by -1", "drop h to - by -1\r", "drop h to h  h by -1", "drop h to h\th by -1",
                "drop h To - by -1", "drop h to - By -1", "drop h to - to -1", "drop h by - by -1", "drop h l to - by -1", "drop h to - by -1 by -1",
                "drop h to - by 1 2", "drop h to -1 by -1", "drop h to h,h by -1", "drop h to h h l", "drop", "", "-", "drop - to - by -1", "- h to - by -1",
                "drop h to None by 1", "drop H to - by 1", "drop h to () by 1", "kinds h l x", "start h 1", "drop h to - by -1 -"]:
            self.check_bad(self.change(5, line), 5)
        self.check_bad(self.change(5, "drop h to - by -1\ndrop h to - by -1"), 6)
        self.check_bad(self.change(6, "drop l to x by 305"), 6)
        self.check_bad(self.change(4, "come h to h h l by 0"), 6)
        self.assertEqual(len(read_book(self.change(5, None)).rules), 2)
        self.assertEqual(read_book(self.change(5, "by h to h h h h h h h by 0")).rule_named("by"), ("by", "h", ("h",) * 7, 0))

    def test_first_bad_line_is_told(self):
        self.check_bad("kinds h h\nhandles y\nstart", 1)
        self.check_bad("kinds h\nhandles y\nstart", 2)
        self.check_bad("kinds h\nhandles h\nstart y 1\nx", 3)
        self.check_bad("kinds h\nhandles h\nstart h 1\nr h to - by 0\nr y to - by 0\nr h to - by 00", 5)
        self.check_bad("kinds h\nhandles h\nstart h 1\nr h to - by 0\ns h to - by 0\ns h to - by 00", 6)

    def test_lines_end_with_a_newline_only(self):
        for sign in ("\r\n", "\r", "\x0b", "\x0c", "\x1c", "\x85", "\u2028", " ", "", "\\n", "\n\r"):
            bad = [line for line in (self.check_any(TEXT.replace("\n", sign)), self.check_any(TEXT.replace("\nc", sign + "c"))) if line is None]
            self.assertEqual(bad, [], repr(sign))

    def test_lines_left_out_doubled_turned(self):
        told = Counter()
        for book in BOOKS[:80]:
            lines = format_book(book).split("\n")
            for at in range(len(lines)):
                told[self.check_any("\n".join(lines[:at] + lines[at + 1:]))] += 1
                told[self.check_any("\n".join(lines[:at + 1] + lines[at:]))] += 1
                told[self.check_any("\n".join(lines[:at] + lines[at:at + 2][::-1] + lines[at + 2:]))] += 1
                told[self.check_any("\n".join(lines[:at]))] += 1
                told[self.check_any("\n".join(lines[:at] + [""] + lines[at:]))] += 1
        self.assertTrue(min(told[None], told[1], told[2], told[3], told[4], told[5]) > 50, told)

    def test_words_exchanged(self):
        chance = random.Random(101)
        told = Counter()
        words = ["h", "to", "by", "-", "kinds", "handles", "start", "0", "1", "-1", "-0", "01", "+1", "", "a", "b", "\t", "x1", "zzzzzzzzz", "do", "drop"]
        for book in BOOKS:
            lines = [line.split(" ") for line in format_book(book).split("\n")]
            for _ in range(12):
                line = chance.randrange(len(lines))
                other = list(lines[line])
                at = chance.randrange(len(other))
                other[at:at + chance.randint(0, 1)] = chance.choice([[], [chance.choice(words)], [chance.choice(other)]])
                text = "\n".join(" ".join(each) for each in [*lines[:line], other, *lines[line + 1:]])
                told[self.check_any(text) is None] += 1
        self.assertTrue(min(told[True], told[False]) > 200, told)

    def test_signs_exchanged(self):
        chance = random.Random(102)
        told = Counter()
        for book in BOOKS:
            text = format_book(book)
            for _ in range(20):
                at = chance.randrange(len(text) + 1)
                bad = text[:at] + chance.choice(["", "", " ", "\n", "\t", "a", "-", "0", "1", "+", "H", ".", "\u0663"]) + text[at + chance.randint(0, 1):]
                told[self.check_any(bad) is None] += 1
        self.assertTrue(min(told[True], told[False]) > 200, told)

    def test_beginnings(self):
        told = Counter(self.check_any(TEXT[:at]) for at in range(len(TEXT) + 1))
        self.assertTrue(min(told[1], told[2], told[3], told[4], told[6]) > 0 and told[None] > 3, told)

    def test_error_is_a_handle_error(self):
        self.assertRaises(HandleError, read_book, "")
        self.assertRaises(ValueError, read_book, None)
