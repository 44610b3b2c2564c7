"""The texts of books and puzzles, written and read."""

from nearsettled.checks import GREATEST_WIDTH, is_between, is_row
from nearsettled.errors import BadText
from nearsettled.puzzles import Book, is_use, MOST_PLACES, Puzzle
from nearsettled.tables import GREATEST_ARITY, Table

MOST_DIGITS = 9


def show_book(book):
    """The text of a book."""
    lines = [f"book width {book.width} tables {len(book)}"]
    for table in book.tables:
        lines.append(f"table arity {table.arity} rows {len(table)}")
        lines.extend([_spaced(row) for row in table.rows])
    return "\n".join(lines)


def show_puzzle(puzzle):
    """The text of a puzzle."""
    lines = [f"puzzle places {puzzle.places} rows {len(puzzle)}"]
    lines.extend([f"row {table} at {_spaced(spots)}" for table, spots in puzzle.rows])
    return "\n".join(lines)


def _spaced(numbers):
    """Numbers with a space between them."""
    return " ".join([str(number) for number in numbers])


class Lines:
    """The lines of a text, which are read one after the other."""

    def __init__(self, text):
        if not isinstance(text, str):
            raise BadText(1)
        self._lines = text.split("\n")
        # The number, from 1, of the line that was read last.
        self.number = 0

    def read(self, words):
        """Read the next line, and tell the tuple of its numbers.

        words are those of the line, with None for a number; behind them there may be more numbers.
        """
        self.number += 1
        if self.number > len(self._lines):
            raise BadText(self.number)
        told = self._lines[self.number - 1].split(" ")
        if len(told) < len(words):
            raise BadText(self.number)
        found = []
        for at, word in enumerate(told):
            if at >= len(words) or words[at] is None:
                if not _is_number(word):
                    raise BadText(self.number)
                found.append(int(word))
            elif word != words[at]:
                raise BadText(self.number)
        return tuple(found)

    def ask(self, is_right):
        """Raise BadText(line) for the line that was read last unless what it says is right."""
        if not is_right:
            raise BadText(self.number)

    def end(self):
        """Raise BadText(line) for a line that is too much."""
        if self.number < len(self._lines):
            raise BadText(self.number + 1)


def _is_number(word):
    """Whether a word is a number as it is written."""
    if word == "" or len(word) > MOST_DIGITS or not all([sign in "0123456789" for sign in word]):
        return False
    return word == "0" or word[0] != "0"


def read_book(text):
    """The book of which this is the text."""
    lines = Lines(text)
    told = lines.read(["book", "width", None, "tables", None])
    lines.ask(len(told) == 2 and is_between(told[0], 1, GREATEST_WIDTH))
    width, many = told
    tables = []
    while len(tables) < many:
        tables.append(_read_table(lines, width))
    lines.end()
    return Book(width, tables)


def _read_table(lines, width):
    """The table that comes next."""
    told = lines.read(["table", "arity", None, "rows", None])
    lines.ask(len(told) == 2 and is_between(told[0], 1, GREATEST_ARITY))
    arity, many = told
    rows = []
    while len(rows) < many:
        row = lines.read([])
        lines.ask(is_row(row, width, arity) and (rows == [] or rows[-1] < row))
        rows.append(row)
    return Table(width, arity, rows)


def read_puzzle(text, book):
    """The puzzle over a book of which this is the text."""
    lines = Lines(text)
    told = lines.read(["puzzle", "places", None, "rows", None])
    lines.ask(len(told) == 2 and told[0] <= MOST_PLACES)
    places, many = told
    rows = []
    while len(rows) < many:
        told = lines.read(["row", None, "at"])
        row = (told[0], told[1:])
        lines.ask(is_use(book, places, row))
        rows.append(row)
    lines.end()
    return Puzzle(book, places, rows)
