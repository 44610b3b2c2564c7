"""What several tests use: values of all the kinds that the document calls "of any value", and raised errors."""

from nearsettled.desks import Desk
from nearsettled.errors import NearError
from nearsettled.folds import Fold
from nearsettled.operations import Operation
from nearsettled.puzzles import Book, Puzzle
from nearsettled.tables import Table


def nested(levels):
    """A list in a list in a list, so many levels deep."""
    value = []
    for _ in range(levels - 1):
        value = [value]
    return value


ODD = [
    None, True, False, -1, 0, 1, 2, 3, 4, 10 ** 39, -10 ** 39, "", "1", "word", (), (0,), (1, 1), (True,), (None,),
    ((0, 1),), (0, [1]), [], [0], [0, 1], [[0, 1]], [None], nested(30), (nested(29),),
]


SOME_TABLE = Table(2, 2, [(0, 1), (1, 0)])
SOME_BOOK = Book(2, [SOME_TABLE])
# Objects of all classes of the package, for what may be of any value or of these classes.
OBJECTS = [
    SOME_TABLE, SOME_BOOK, Puzzle(SOME_BOOK, 2, []), Puzzle(SOME_BOOK, 3, [(0, (0, 1)), (0, (1, 2)), (0, (2, 0))]),
    Fold(2, [0, 0, 1]), Fold(3, [0, 0, 0, 0, 1, 1, 2]), Operation(2, 3, [0, 0, 0, 1, 0, 1, 1, 1]),
    Operation(2, 2, [0, 0, 0, 1]), Desk(SOME_BOOK, 2), NearError(), Fold, Puzzle,
]

# No choices of a puzzle of three places with two values.
WRONG_CHOICES = [
    ((0, 2),), ((3, 0),), ((-1, 0),), ((0, -1),), ((0, 0), (0, 0)), ((0, 0), (0, 1)), ((1, 0), (0, 0)),
    ((0, True),), ((False, 0),), ((0,),), ((0, 0, 0),), ([0, 0],), [(0, 0)], [], {}, (0, 0), ((0, 0), None),
    ((0, 0), (2, 0), (1, 0)), (("0", 0),), ((None, 0),), ((0, None),), (((0,), 0),), "", ((0, 0), (3, 1)),
]


def odd_but(*good):
    """The odd values but those that are equal to a good one and of its very type."""
    return [value for value in ODD if not any(type(value) is type(one) and value == one for one in good)]


def raised(function, *arguments, **named):
    """The type and the attributes of the error that a call raises."""
    try:
        function(*arguments, **named)
    except NearError as error:
        return type(error), vars(error)
    return None


def otherwise(value):
    """Values that are a value with one part otherwise, at any depth, or something quite different."""
    yield from ODD
    yield from OBJECTS
    yield from near(value)


def near_object(value):
    """Objects of the class of a fold, an operation, a puzzle with one part otherwise, and other objects."""
    yield from [None, [value], "word", *OBJECTS[:8:2]]
    if isinstance(value, (Fold, Operation)):
        arity = [value.arity] if isinstance(value, Operation) else []
        for at, cell in enumerate(value.cells):
            for other in range(value.width):
                if other != cell:
                    yield type(value)(value.width, *arity, value.cells[:at] + [other] + value.cells[at + 1:])
        yield list(value.cells)
    if isinstance(value, Puzzle):
        yield from near_puzzle(value)


def near_puzzle(puzzle):
    """Puzzles that are a puzzle with one part otherwise."""
    book, places, rows = puzzle.book, puzzle.places, puzzle.rows
    yield rows
    yield Puzzle(book.added(Table(book.width, 1, [])), places, rows)
    less = [Table(book.width, table.arity, table.rows[1:]) for table in book.tables]
    yield Puzzle(Book(book.width, less), places, rows)
    if places < 60:
        yield Puzzle(book, places + 1, rows)
    for at, (table, spots) in enumerate(rows):
        yield puzzle.part([other for other in range(len(rows)) if other != at])
        yield Puzzle(book, places, rows[:at] + [rows[at]] + rows[at:])
        yield Puzzle(book, places, rows[:at] + [(table, spots[::-1])] + rows[at + 1:])
        for other in range(len(book)):
            if other != table and book[other].arity == book[table].arity:
                yield Puzzle(book, places, rows[:at] + [(other, spots)] + rows[at + 1:])
        for position in range(len(spots)):
            moved = spots[:position] + ((spots[position] + 1) % places,) + spots[position + 1:]
            yield Puzzle(book, places, rows[:at] + [(table, moved)] + rows[at + 1:])


def near(value):
    """Values that are a value with one part otherwise: changed, of another kind, lacking, doubled, exchanged."""
    if value is None:
        yield from [0, False, ()]
    elif isinstance(value, int):
        yield from [value + 1, value - 1, -value, bool(value), str(value), (value,), [value], None]
    elif isinstance(value, str):
        yield from [value + " ", value.upper(), "", "broken", "split", "yes", "no", "row", "part", "place"]
        yield from [[value], None]
    elif not isinstance(value, (list, tuple)):
        yield from near_object(value)
    else:
        kind = type(value)
        yield list(value) if kind is tuple else tuple(value)
        yield from [kind(), None]
        parts = list(value)
        for at, part in enumerate(parts):
            yield kind(parts[:at] + parts[at + 1:])
            yield kind(parts[:at] + [part] + parts[at:])
            if at > 0:
                yield kind(parts[:at - 1] + [part, parts[at - 1]] + parts[at + 1:])
            for other in near(part):
                yield kind(parts[:at] + [other] + parts[at + 1:])


def lists_in(value):
    """The lists that a value is built from, itself among them."""
    found = [value] if isinstance(value, list) else []
    if isinstance(value, (list, tuple)):
        for part in value:
            found += lists_in(part)
    return found


def spoil(value):
    """Change all lists that a value is built from."""
    for some in lists_in(value):
        some.append("spoiled")
