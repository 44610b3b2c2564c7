"""Books of tables, puzzles over them, and the answers of puzzles."""

from nearsettled.checks import check_order, check_width, is_below, is_between, is_row
from nearsettled.errors import BadAnswer, BadChoice, BadPlaces, BadTable, BadUse, NoList, NoNumber, Unlike
from nearsettled.search import Search
from nearsettled.tables import Table

MOST_PLACES = 60


def _check_numbers(numbers, limit):
    """Raise NoList() or NoNumber(number) if numbers, of any value, is no list of numbers below a limit."""
    if not isinstance(numbers, list):
        raise NoList()
    for number in numbers:
        if not is_below(number, limit):
            raise NoNumber(number)


class Book:
    """A list of tables of one width."""

    def __init__(self, width, tables):
        check_width(width)
        if not isinstance(tables, list):
            raise NoList()
        for number, table in enumerate(tables):
            if not isinstance(table, Table) or table.width != width:
                raise BadTable(number)
        self.width = width
        self._tables = list(tables)

    @property
    def tables(self):
        """The list of the tables."""
        return list(self._tables)

    def __len__(self):
        return len(self._tables)

    def __getitem__(self, number):
        if not is_below(number, len(self._tables)):
            raise NoNumber(number)
        return self._tables[number]

    def __iter__(self):
        raise TypeError("a book is not iterated over: take its tables")

    def __eq__(self, other):
        return isinstance(other, Book) and self.width == other.width and self._tables == other._tables

    def added(self, table):
        """The book with one more table at its end."""
        if not isinstance(table, Table) or table.width != self.width:
            raise Unlike()
        return Book(self.width, self._tables + [table])

    def given(self):
        """The book with a table of one row for each value at its end."""
        return Book(self.width, self._tables + [Table(self.width, 1, [(value,)]) for value in range(self.width)])

    def without(self, numbers):
        """The book without the tables with these numbers."""
        _check_numbers(numbers, len(self._tables))
        return Book(self.width, [table for number, table in enumerate(self._tables) if number not in numbers])

    def renamed(self, order):
        """The book with each table renamed."""
        check_order(order, self.width)
        return Book(self.width, [table.renamed(order) for table in self._tables])


def is_use(book, places, value):
    """Whether a value, of any value, is a row of a puzzle over a book with so many places."""
    if not isinstance(value, tuple) or len(value) != 2 or not is_below(value[0], len(book)):
        return False
    return is_row(value[1], places, book[value[0]].arity)


class Puzzle:
    """Rows that lay tables of a book over places."""

    def __init__(self, book, places, rows):
        if not is_between(places, 0, MOST_PLACES):
            raise BadPlaces()
        if not isinstance(rows, list):
            raise NoList()
        for number, row in enumerate(rows):
            if not is_use(book, places, row):
                raise BadUse(number)
        self._book = book
        self._places = places
        self._rows = list(rows)

    # A desk has properties of these names, too: nothing may assign to an attribute called so.
    @property
    def book(self):
        """The book."""
        return self._book

    @property
    def places(self):
        """The number of places."""
        return self._places

    @property
    def rows(self):
        """The list of the rows."""
        return list(self._rows)

    def __len__(self):
        return len(self._rows)

    def __eq__(self, other):
        return (isinstance(other, Puzzle) and self._places == other._places and self._rows == other._rows
                and self._book == other._book)

    def added(self, table, spots):
        """The puzzle with one more row at its end."""
        if not is_use(self._book, self._places, (table, spots)):
            raise BadUse(len(self._rows))
        return self._with(self._rows + [(table, spots)])

    def part(self, numbers):
        """The puzzle of the rows with these numbers, in their own order."""
        _check_numbers(numbers, len(self._rows))
        wanted = set(numbers)
        return self._with([row for number, row in enumerate(self._rows) if number in wanted])

    def _with(self, rows):
        """The puzzle with other rows, which have been looked over already."""
        made = Puzzle(self._book, self._places, [])
        made._rows = rows
        return made


def breaks_row(puzzle, row, answer):
    """Whether an answer breaks a row (table, spots)."""
    table, spots = row
    return tuple([answer[spot] for spot in spots]) not in puzzle.book[table]


def first_broken(puzzle, answer):
    """None if answer, of any value, is an answer, else the number of the first row that it breaks."""
    if not is_row(answer, puzzle.book.width, puzzle.places):
        raise BadAnswer()
    for number, row in enumerate(puzzle.rows):
        if breaks_row(puzzle, row, answer):
            return number
    return None


def is_choice(puzzle, value):
    """Whether a value, of any value, is a choice of the puzzle."""
    if not isinstance(value, tuple):
        return False
    least = 0
    for pair in value:
        if not isinstance(pair, tuple) or len(pair) != 2 or not is_below(pair[1], puzzle.book.width):
            return False
        if not is_between(pair[0], least, puzzle.places - 1):
            return False
        least = pair[0] + 1
    return True


def answers(puzzle, *, choice=()):
    """Generate, ascending, all answers that go on with a choice."""
    if not is_choice(puzzle, choice):
        raise BadChoice()
    search = Search(puzzle)
    stand, _ = search.start_with(choice)
    if stand is not None:
        yield from search.answers_from(stand, 0, None)


def solved(puzzle, *, choice=()):
    """("yes", answer) with any answer that goes on with a choice, or ("no", tree) if there is none."""
    if not is_choice(puzzle, choice):
        raise BadChoice()
    return Search(puzzle).found(choice)


def shows_none(puzzle, choice, value):
    """Whether a value, of any value, is a tree that shows that no answer goes on with a choice."""
    if not is_choice(puzzle, choice):
        raise BadChoice()
    chosen = [None] * puzzle.places
    for place, worth in choice:
        chosen[place] = worth
    return _is_tree(puzzle, puzzle.rows, chosen, value)


def _is_tree(puzzle, rows, chosen, value):
    """Whether a value, of any value, is a tree for what is chosen: a value or None for each place."""
    if not isinstance(value, tuple):
        return False
    if len(value) == 2 and value[0] == "broken" and is_below(value[1], len(rows)):
        spots = rows[value[1]][1]
        return None not in [chosen[spot] for spot in spots] and breaks_row(puzzle, rows[value[1]], chosen)
    if len(value) != 3 or value[0] != "split" or not is_below(value[1], len(chosen)) or chosen[value[1]] is not None:
        return False
    _, place, trees = value
    if not isinstance(trees, list) or len(trees) != puzzle.book.width:
        return False
    for worth, tree in enumerate(trees):
        if not _is_tree(puzzle, rows, chosen[:place] + [worth] + chosen[place + 1:], tree):
            return False
    return True
