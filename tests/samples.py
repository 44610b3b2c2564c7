"""Books and puzzles for the tests: some by hand, and many of all shapes from a source that is always the same."""

import itertools
import random

from nearsettled.puzzles import Book, Puzzle
from nearsettled.tables import Table

UNLIKE = Table(2, 2, [(0, 1), (1, 0)])
AT_MOST = Table(2, 2, [(0, 0), (0, 1), (1, 1)])
COLOURS = Table(3, 2, [(one, other) for one in range(3) for other in range(3) if one != other])
EVEN = Table(2, 3, [row for row in itertools.product((0, 1), repeat=3) if sum(row) % 2 == 0])
ODD_SUM = Table(2, 3, [row for row in itertools.product((0, 1), repeat=3) if sum(row) % 2 == 1])
EMPTY = Table(2, 2, [])
# Tables of three values of which much is known: orders, sums, meets, medians, single values.
UP = Table(3, 2, [(one, other) for one in range(3) for other in range(3) if one <= other])
AWAY = Table(3, 2, [(0, 0), (1, 1), (2, 2), (0, 1), (0, 2)])
SUM = Table(3, 3, [row for row in itertools.product(range(3), repeat=3) if sum(row) % 3 == 0])
NEXT = Table(3, 2, [(0, 1), (1, 2), (2, 0)])
LEAST = Table(3, 3, [row for row in itertools.product(range(3), repeat=3) if row[2] == min(row[:2])])
FLAT = Table(3, 3, [(one, other, one if one == other else 0) for one in range(3) for other in range(3)])
BETWEEN = Table(3, 2, [(0, 0), (0, 1), (1, 0), (1, 1), (1, 2), (2, 1), (2, 2)])
MIDDLE = Table(3, 3, [row for row in itertools.product(range(3), repeat=3) if sorted(row)[1] == row[1]])
ONES = [Table(3, 1, [(value,)]) for value in range(3)]
# Books of them, with and without a fold, with and without an agreement of three.
KNOWN = {
    "up": [UP], "up and ones": [UP, *ONES], "away": [AWAY, *ONES], "sum": [SUM], "sum and ones": [SUM, *ONES],
    "next": [NEXT], "next and up": [NEXT, UP], "least": [LEAST, *ONES], "flat": [FLAT, *ONES],
    "flat and up": [FLAT, UP], "between": [BETWEEN, *ONES], "between and up": [BETWEEN, UP, *ONES],
    "middle": [MIDDLE], "middle, ones": [MIDDLE, *ONES],
    "colours": [COLOURS], "colours and one": [COLOURS, ONES[0]], "nothing": [], "no rows": [Table(3, 2, []), COLOURS],
    "least and sum": [LEAST, SUM], "all": [Table.full(3, 2), Table.equal(3)], "all and next": [Table.full(3, 1), NEXT],
}


def known_books():
    """(name, book) for each of these books."""
    return [(name, Book(3, tables)) for name, tables in KNOWN.items()]


def small_book(source, width, most=3):
    """A book of a few tables with a few rows, as they are asked for agreements."""
    tables = []
    for _ in range(source.randint(1, most)):
        arity = source.choice((2, 2, 3)) if width < 3 else 2
        rows = list(itertools.product(range(width), repeat=arity))
        tables.append(Table(width, arity, source.sample(rows, source.randint(1, min(7, len(rows))))))
    return Book(width, tables)


def some_book(source, width):
    """A book of a width with up to four tables, some of them without rows or with all."""
    tables = []
    for _ in range(source.randrange(5)):
        arity = source.randint(1, 3)
        chance = source.choice((0, 0.3, 0.5, 0.7, 0.9, 1))
        rows = [row for row in itertools.product(range(width), repeat=arity) if source.random() < chance]
        tables.append(Table(width, arity, rows))
    return Book(width, tables)


def some_puzzle(source, most_places=5, most_rows=7):
    """A puzzle over such a book: a place may stand twice in a row, and rows may be equal."""
    book = some_book(source, source.randint(1, 3))
    places = source.randint(0, most_places)
    rows = []
    if len(book) > 0 and places > 0:
        for _ in range(source.randint(0, most_rows)):
            number = source.randrange(len(book))
            rows.append((number, tuple(source.randrange(places) for _ in range(book[number].arity))))
            if source.random() < 0.1:
                rows.append(source.choice(rows))
    return Puzzle(book, places, rows)


def tight_puzzles(seed, many, places=4, most_rows=8):
    """Puzzles whose rows leave few answers, over books of a few tables, none of them without rows."""
    source = random.Random(seed)
    for _ in range(many):
        book = small_book(source, source.choice((2, 2, 3)))
        uses = [source.randrange(len(book)) for _ in range(source.randint(2, most_rows))]
        rows = [(use, tuple(source.sample(range(places), book[use].arity))) for use in uses]
        yield Puzzle(book, places, rows)


# Each leaves out one way for three places.
CLAUSES = [Table(2, 3, [row for row in itertools.product((0, 1), repeat=3) if row != out])
           for out in itertools.product((0, 1), repeat=3)]


def clauses(source, many, places=60):
    """A puzzle of so many rows, each of which leaves out one way for three places."""
    rows = [(source.randrange(8), tuple(source.sample(range(places), 3))) for _ in range(many)]
    return Puzzle(Book(2, CLAUSES), places, rows)


def tangled_puzzles(seed, many, places=5):
    """Puzzles in which looking nearby does not see much: ways left out for three places, colours, sums."""
    source = random.Random(seed)
    for _ in range(many):
        yield clauses(source, source.randint(8, 20), places)
        pairs = [pair for pair in itertools.combinations(range(places), 2) if source.random() < 0.8]
        yield Puzzle(Book(3, [COLOURS]), places, [(0, pair) for pair in pairs])
        rows = [(source.randrange(2), tuple(source.sample(range(places), 3))) for _ in range(places)]
        yield Puzzle(Book(2, [EVEN, ODD_SUM]), places, rows)


def some_choice(source, puzzle):
    """A choice of a puzzle, often the empty one."""
    some = sorted(source.sample(range(puzzle.places), source.choice((0, 0, min(1, puzzle.places),
                                                                     source.randint(0, puzzle.places)))))
    return tuple((place, source.randrange(puzzle.book.width)) for place in some)


def some_puzzles(seed, many, **bounds):
    """Puzzles of all shapes, each with a choice."""
    source = random.Random(seed)
    for _ in range(many):
        puzzle = some_puzzle(source, **bounds)
        yield puzzle, some_choice(source, puzzle)


def ring(many, places=None):
    """The puzzle of so many places in a ring, each unlike the next one, perhaps with more places."""
    rows = [(0, (place, (place + 1) % many)) for place in range(many)]
    return Puzzle(Book(2, [UNLIKE]), many if places is None else places, rows)
