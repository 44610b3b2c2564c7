"""Points 3, 20, 21 and 22 for nearsettled.texts."""

import itertools
import random
import re
import unittest

from nearsettled.errors import BadText
from nearsettled.puzzles import Book, Puzzle
from nearsettled.tables import Table
from nearsettled.texts import read_book, read_puzzle, show_book, show_puzzle
from tests.helpers import ODD, OBJECTS, raised
from tests.samples import AT_MOST, COLOURS, EMPTY, known_books, some_book, some_puzzles, UNLIKE

NUMBER = "(0|[1-9][0-9]{0,8})"


class Wrong(Exception):
    """A line is wrong."""


class PlainReader:
    """A reader of its own: the number of the first line that is wrong, or None."""

    def __init__(self, text):
        self.lines = text.split("\n")
        self.at = 0

    def match(self, pattern):
        """The numbers of the next line, which must be as a pattern tells."""
        self.at += 1
        found = re.fullmatch(pattern, self.lines[self.at - 1]) if self.at <= len(self.lines) else None
        self.ask(found is not None)
        return [int(word) for word in found.group(0).split(" ") if word[0] in "0123456789"]

    def ask(self, right):
        if not right:
            raise Wrong(self.at)

    def end(self):
        if self.at < len(self.lines):
            raise Wrong(self.at + 1)

    def book(self):
        width, many = self.match(f"book width {NUMBER} tables {NUMBER}")
        self.ask(1 <= width <= 3)
        for _ in range(many):
            arity, rows = self.match(f"table arity {NUMBER} rows {NUMBER}")
            self.ask(1 <= arity <= 3)
            before = []
            for _ in range(rows):
                row = self.match(f"{NUMBER}( {NUMBER})*")
                self.ask(len(row) == arity and max(row) < width and before < row)
                before = row
        self.end()

    def puzzle(self, book):
        places, many = self.match(f"puzzle places {NUMBER} rows {NUMBER}")
        self.ask(places <= 60)
        for _ in range(many):
            table, *spots = self.match(f"row {NUMBER} at {NUMBER}( {NUMBER})*")
            self.ask(table < len(book.tables))
            self.ask(len(spots) == book.tables[table].arity and max(spots) < places)
        self.end()


def first_wrong(text, book=None):
    """The number of the first line that is wrong, None if none is."""
    reader = PlainReader(text)
    try:
        if book is None:
            reader.book()
        else:
            reader.puzzle(book)
    except Wrong as error:
        return error.args[0]
    return None


def changed_lines(text):
    """Texts with lines left out, doubled, exchanged, put in."""
    lines = text.split("\n")
    for at, line in enumerate(lines):
        yield "\n".join(lines[:at] + lines[at + 1:])
        yield "\n".join(lines[:at] + [line] + lines[at:])
        for new in ("", " ", "0", "1", "0 1", "table arity 1 rows 0", "row 0 at 0", line + " 0", "book", "word"):
            yield "\n".join(lines[:at] + [new] + lines[at:])
            yield "\n".join(lines[:at] + [new] + lines[at + 1:])
        for other in range(at):
            turned = list(lines)
            turned[at], turned[other] = turned[other], turned[at]
            yield "\n".join(turned)
    yield from (text + "\n", "\n" + text, text + "\n0", "\n".join(lines[:-1]), text.replace("\n", "\r\n"))


def changed_words(text):
    """Texts with words left out, doubled, exchanged, turned into others."""
    words = re.split("([ \n])", text)
    for at in range(0, len(words), 2):
        yield "".join(words[:at] + words[at + 1:])
        yield "".join(words[:at] + words[at + 2:])
        for new in ("0", "1", "2", "3", "4", "60", "61", "00", "01", "-1", "+1", "999999999", "1000000000", "1.0", "1_0",
                    "\u0661", "\u00b2", "Book", "row", "at", "x", words[at] + "0", "0" + words[at], words[at].upper()):
            yield "".join(words[:at] + [new] + words[at + 1:])
        for new in (" ", "  ", "\n", "\t", "", "\r", "\u00a0", "\x0b"):
            if at > 0:
                yield "".join(words[:at - 1] + [new] + words[at:])
        if at > 0:
            yield "".join(words[:at - 2] + [words[at], words[at - 1], words[at - 2]] + words[at + 1:])


def changed_signs(source, text, many):
    """Texts with signs left out, put in, turned."""
    for _ in range(many):
        at = source.randrange(len(text))
        sign = source.choice("0123459 \n\tabkrotw-+._\r\u0660")
        yield source.choice((text[:at] + text[at + 1:], text[:at] + sign + text[at:], text[:at] + sign + text[at + 1:],
                             text[:at] + text[at + 1:at + 2] + text[at:at + 1] + text[at + 2:]))


class BookTest(unittest.TestCase):
    def check(self, text):
        wrong = first_wrong(text)
        if wrong is None:
            self.assertEqual(show_book(read_book(text)), text)
        else:
            self.assertEqual(raised(read_book, text), (BadText, {"line": wrong}), text)
        return wrong is None

    def books(self, seed, many):
        source = random.Random(seed)
        return [some_book(source, source.randint(1, 3)) for _ in range(many)] + [book for _, book in known_books()]

    def test_books_are_read_back(self):
        for book in self.books(1, 200):
            text = show_book(book)
            self.assertIsNone(first_wrong(text))
            self.assertEqual(read_book(text), book)

    def test_by_hand(self):
        book = Book(2, [Table.only(2, 1), EMPTY, UNLIKE])
        text = "book width 2 tables 3\ntable arity 1 rows 1\n1\ntable arity 2 rows 0\ntable arity 2 rows 2\n0 1\n1 0"
        self.assertEqual(show_book(book=book), text)
        self.assertEqual(read_book(text=text), book)
        self.assertEqual(show_book(Book(3, [])), "book width 3 tables 0")
        self.assertEqual(read_book("book width 1 tables 0"), Book(1, []))
        self.assertEqual(read_book("book width 2 tables 13" + "\ntable arity 3 rows 0" * 13), Book(2, [Table(2, 3, [])] * 13))

    def test_lines(self):
        counts = [0, 0]
        for book in self.books(2, 30):
            text = show_book(book)
            if len(text) < 200:
                for other in changed_lines(text):
                    counts[self.check(other)] += 1
        self.assertGreater(min(counts), 20)

    def test_words_and_signs(self):
        source = random.Random(3)
        counts = [0, 0]
        for book in self.books(3, 30):
            text = show_book(book)
            if len(text) < 150:
                for other in [*changed_words(text), *changed_signs(source, text, 200)]:
                    counts[self.check(other)] += 1
        self.assertGreater(min(counts), 100)

    def test_first_wrong_lines(self):
        head = "book width 2 tables 1\ntable arity 2 rows 2\n"
        for text, line in (("", 1), ("\n", 1), ("book", 1), ("book width 0 tables 0", 1), ("book width 4 tables 0", 1),
                           ("book width 02 tables 0", 1), ("book width 2 tables 1", 2), ("book width 2 tables 0\n", 2),
                           ("book width 2 tables 0 ", 1), (" book width 2 tables 0", 1), ("book  width 2 tables 0", 1),
                           ("book width 2 tables 0 0", 1), (head + "0 1", 4), (head + "0 1\n1 0\n", 5),
                           (head + "0 1\n0 1", 4), (head + "1 0\n0 1", 4), (head + "0 2\n1 0", 3), (head + "0\n1 0", 3),
                           (head + "0 1 1\n1 0", 3), (head + "0 1\n1 00", 4), (head + "0 1\n1 -0", 4), (head, 3),
                           ("book width 2 tables 1000000000", 1), ("book width 2 tables 999999999", 2),
                           ("book width 2 tables 1\ntable arity 0 rows 0", 2),
                           ("book width 2 tables 1\ntable arity 4 rows 0", 2),
                           ("book width 1 tables 1\ntable arity 1 rows 2\n0\n0", 4),
                           ("book width 1 tables 1\ntable arity 1 rows 2\n0", 4),
                           ("book width 3 tables 1\ntable arity 1 rows 999999999\n0\n1\n2", 6)):
            with self.subTest(text=text):
                self.assertEqual(first_wrong(text), line)
                self.check(text)

    def test_no_text(self):
        for text in [value for value in ODD if not isinstance(value, str)] + OBJECTS:
            self.assertEqual(raised(read_book, text), (BadText, {"line": 1}))
        for text in [value for value in ODD if isinstance(value, str)]:
            self.assertEqual(raised(read_book, text), (BadText, {"line": 1}))

    def test_long_texts(self):
        rows = list(itertools.product(range(3), repeat=3))
        source = random.Random(4)
        book = Book(3, [Table(3, 3, source.sample(rows, 26)) for _ in range(12)])
        text = show_book(book)
        self.assertEqual(read_book(text), book)
        lines = text.split("\n")
        for at in range(1, len(lines), 17):
            self.check("\n".join(lines[:at] + lines[at + 1:]))
            self.check("\n".join(lines[:at] + ["x"] + lines[at + 1:]))


class PuzzleTest(unittest.TestCase):
    def check(self, text, book):
        wrong = first_wrong(text, book)
        if wrong is None:
            self.assertEqual(show_puzzle(read_puzzle(text, book)), text)
        else:
            self.assertEqual(raised(read_puzzle, text, book), (BadText, {"line": wrong}), text)
        return wrong is None

    def test_puzzles_are_read_back(self):
        for puzzle, _ in some_puzzles(5, 300, most_places=12):
            text = show_puzzle(puzzle)
            self.assertIsNone(first_wrong(text, puzzle.book))
            self.assertEqual(read_puzzle(text, puzzle.book), puzzle)

    def test_by_hand(self):
        book = Book(2, [Table.only(2, 1), Table.full(2, 3)])
        puzzle = Puzzle(book, 60, [(1, (59, 0, 59)), (0, (10,)), (0, (10,))])
        text = "puzzle places 60 rows 3\nrow 1 at 59 0 59\nrow 0 at 10\nrow 0 at 10"
        self.assertEqual(show_puzzle(puzzle=puzzle), text)
        self.assertEqual(read_puzzle(text=text, book=book), puzzle)
        self.assertIs(read_puzzle(text, book).book, book)
        self.assertEqual(show_puzzle(Puzzle(Book(3, []), 0, [])), "puzzle places 0 rows 0")
        self.assertEqual(read_puzzle("puzzle places 0 rows 0", Book(3, [])), Puzzle(Book(3, []), 0, []))

    def test_lines_words_and_signs(self):
        source = random.Random(6)
        counts = [0, 0]
        for puzzle, _ in some_puzzles(6, 60, most_places=12):
            text = show_puzzle(puzzle)
            if len(text) < 120:
                for other in [*changed_lines(text), *changed_words(text), *changed_signs(source, text, 150)]:
                    counts[self.check(other, puzzle.book)] += 1
        self.assertGreater(min(counts), 300)

    def test_first_wrong_lines(self):
        book = Book(2, [Table.only(2, 1), AT_MOST])
        for text, line in (("", 1), ("puzzle", 1), ("puzzle places 61 rows 0", 1), ("puzzle places 60 rows 0", None),
                           ("puzzle places 1 rows 1", 2), ("puzzle places 1 rows 0\n", 2), ("puzzle places 1 rows 01", 1),
                           ("puzzle places 1 rows 1\nrow 0 at 1", 2), ("puzzle places 1 rows 1\nrow 0 at 0", None),
                           ("puzzle places 1 rows 1\nrow 1 at 0", 2), ("puzzle places 1 rows 1\nrow 2 at 0", 2),
                           ("puzzle places 1 rows 1\nrow 0 at", 2), ("puzzle places 1 rows 1\nrow 0 at ", 2),
                           ("puzzle places 1 rows 1\nrow 0 at 0 0", 2), ("puzzle places 1 rows 1\nrow 0 0", 2),
                           ("puzzle places 1 rows 1\nrow 00 at 0", 2), ("puzzle places 1 rows 1\nrow 0 at 0 ", 2),
                           ("puzzle places 0 rows 1\nrow 0 at 0", 2), ("puzzle places 1 rows 1\nrow 0 at 0\nrow 0 at 0", 3),
                           ("puzzle places 999999999 rows 0", 1), ("puzzle places 1 rows 999999999\nrow 0 at 0", 3),
                           ("puzzle places 2 rows 2\nrow 1 at 1 1\nrow 1 at 0 2", 3), ("puzzle places 1 rows -1", 1),
                           ("puzzle places 1 rows 1\nrow 0000000000 at 0", 2), ("puzzle places 1 rows 0 0", 1)):
            with self.subTest(text=text):
                self.assertEqual(first_wrong(text, book), line)
                self.check(text, book)

    def test_no_text(self):
        for text in ODD + OBJECTS:
            self.assertEqual(raised(read_puzzle, text, Book(2, [UNLIKE])), (BadText, {"line": 1}))

    def test_long_texts(self):
        source = random.Random(7)
        book = Book(3, [COLOURS, Table.only(3, 0)])
        rows = [(0, tuple(source.randrange(60) for _ in range(2))) for _ in range(1200)]
        puzzle = Puzzle(book, 60, rows)
        text = show_puzzle(puzzle)
        self.assertEqual(read_puzzle(text, book), puzzle)
        self.assertEqual(raised(read_puzzle, text.replace("\nrow 0 at", "\nrow 1 at", 1), book), (BadText, {"line": 2}))
        self.assertEqual(raised(read_puzzle, text + "\n" + "row 0 at 0 0", book), (BadText, {"line": 1202}))


if __name__ == "__main__":
    unittest.main()
