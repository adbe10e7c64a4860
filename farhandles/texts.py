"""Texts of books: a book as lines of words, and the book again."""

from farhandles.books import Book, are_handles, are_kinds, is_among, is_name
from farhandles.errors import BadLine

FIGURES = "0123456789"
# Python turns only some thousands of figures into a number, and back, at a time.
GROUP = 60


def format_book(book):
    """The text of the book."""
    lines = [
        " ".join(["kinds", *book.kinds]),
        " ".join(["handles", *book.handles]),
        " ".join(["start", book.start, word_of(book.amount)]),
    ]
    lines.extend([rule_line(rule) for rule in book.rules])
    return "\n".join(lines)


def read_book(text):
    """The book with this text; raises BadLine for any value that is no text of a book."""
    if not isinstance(text, str):
        raise BadLine(1)
    lines = [line.split(" ") for line in text.split("\n")]
    kinds = words_behind(lines, 1, "kinds")
    if not are_kinds(kinds):
        raise BadLine(1)
    known = {kind: True for kind in kinds}
    handles = words_behind(lines, 2, "handles")
    if not are_handles(handles, known):
        raise BadLine(2)
    told = words_behind(lines, 3, "start")
    if len(told) != 2 or told[0] not in known or not is_number(told[1]):
        raise BadLine(3)
    return Book(kinds, handles, read_rules(lines, known), told[0], number_of(told[1]))


def rule_line(rule):
    """The line of a rule."""
    name, kind, outcome, change = rule
    parts = outcome if outcome else ("-",)
    return " ".join([name, kind, "to", *parts, "by", word_of(change)])


def words_behind(lines, number, word):
    """The words behind the first one of the line with this number; raises BadLine if that is another one."""
    if number > len(lines) or lines[number - 1][0] != word:
        raise BadLine(number)
    return lines[number - 1][1:]


def read_rules(lines, kinds):
    """The rules that the lines from the fourth one on tell."""
    rules = []
    names = {}
    for at, words in enumerate(lines):
        if at >= 3:
            if not are_rule_words(words, kinds) or words[0] in names:
                raise BadLine(at + 1)
            names[words[0]] = True
            outcome = () if words[3] == "-" else tuple(words[3:-2])
            rules.append((words[0], words[1], outcome, number_of(words[-1])))
    return rules


def are_rule_words(words, kinds):
    """Whether the words of a line tell a rule with these kinds."""
    if len(words) < 6 or words[2] != "to" or words[-2] != "by":
        return False
    outcome = words[3:-2]
    if outcome != ["-"] and not all([is_among(part, kinds) for part in outcome]):
        return False
    return is_name(words[0]) and is_among(words[1], kinds) and is_number(words[-1])


def is_number(word):
    """Whether a word tells a number as texts do."""
    figures = word[1:] if word.startswith("-") else word
    if not figures or not all([figure in FIGURES for figure in figures]):
        return False
    return word == "0" or figures[0] != "0"


def number_of(word):
    """The number that a word tells."""
    figures = word[1:] if word.startswith("-") else word
    number = 0
    for at in range(0, len(figures), GROUP):
        group = figures[at:at + GROUP]
        number = number * tens(len(group)) + int(group)
    return -number if word.startswith("-") else number


def word_of(number):
    """The word that tells a number."""
    groups = []
    rest = abs(number)
    top = tens(GROUP)
    while rest >= top:
        rest, group = divmod(rest, top)
        groups.insert(0, str(group).zfill(GROUP))
    return ("-" if number < 0 else "") + str(rest) + "".join(groups)


def tens(many):
    """The number with so many noughts."""
    number = 1
    for _ in range(many):
        number *= 10
    return number
