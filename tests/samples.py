"""Books and puzzles for the tests: some by hand, and many of all shapes from a source that is always the same."""

import itertools
import random

from nearsettled.puzzles import Book, Puzzle
from nearsettled.tables import Table

UNLIKE = Table(2, 2, [(0, 1), (1, 0)])
AT_MOST = Table(2, 2, [(0, 0), (0, 1), (1, 1)])
COLOURS = Table(3, 2, [(one, other) for one in range(3) for other in range(3) if one != other])
EVEN = Table(2, 3, [row for row in itertools.product((0, 1), repeat=3) if sum(row) % 2 == 0])
ODD_SUM = Table(2, 3, [row for row in itertools.product((0, 1), repeat=3) if sum(row) % 2 == 1])


def some_book(source, width):
    """A book of a width with up to four tables, some of them without rows or with all."""
    tables = []
    for _ in range(source.randrange(5)):
        arity = source.randint(1, 3)
        chance = source.choice((0, 0.3, 0.5, 0.7, 0.9, 1))
        rows = [row for row in itertools.product(range(width), repeat=arity) if source.random() < chance]
        tables.append(Table(width, arity, rows))
    return Book(width, tables)


def some_puzzle(source, most_places=5, most_rows=7):
    """A puzzle over such a book: a place may stand twice in a row, and rows may be equal."""
    book = some_book(source, source.randint(1, 3))
    places = source.randint(0, most_places)
    rows = []
    if len(book) > 0 and places > 0:
        for _ in range(source.randint(0, most_rows)):
            number = source.randrange(len(book))
            rows.append((number, tuple(source.randrange(places) for _ in range(book[number].arity))))
            if source.random() < 0.1:
                rows.append(source.choice(rows))
    return Puzzle(book, places, rows)


def some_choice(source, puzzle):
    """A choice of a puzzle, often the empty one."""
    some = sorted(source.sample(range(puzzle.places), source.choice((0, 0, min(1, puzzle.places),
                                                                     source.randint(0, puzzle.places)))))
    return tuple((place, source.randrange(puzzle.book.width)) for place in some)


def some_puzzles(seed, many, **bounds):
    """Puzzles of all shapes, each with a choice."""
    source = random.Random(seed)
    for _ in range(many):
        puzzle = some_puzzle(source, **bounds)
        yield puzzle, some_choice(source, puzzle)


def ring(many, places=None):
    """The puzzle of so many places in a ring, each unlike the next one, perhaps with more places."""
    rows = [(0, (place, (place + 1) % many)) for place in range(many)]
    return Puzzle(Book(2, [UNLIKE]), many if places is None else places, rows)
