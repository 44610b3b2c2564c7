"""Folds: a value for each set of values. They answer each puzzle over a book whose tables they keep."""

from nearsettled.checks import check_order, check_width, is_below, is_set
from nearsettled.errors import BadArguments, BadCell, BadLength, NoFold, NoList, NoMeet, Unlike
from nearsettled.leans import lean
from nearsettled.looking import values_of
from nearsettled.places import emptied, shows_sets
from nearsettled.puzzles import answers, Puzzle, shows_none, solved
from nearsettled.trees import rows_named


def sets_of(width):
    """The ascending list of the sets of values of a width."""
    check_width(width)
    return sorted([values_of(bits, width) for bits in range(1, 1 << width)])


def set_rows(table):
    """The ascending list of the set-rows of a table."""
    sets = sets_of(table.width)
    return [tuple([sets[number] for number in numbers]) for numbers in numbered_set_rows(table)]


def numbered_set_rows(table):
    """The ascending list of the set-rows of a table, with the numbers of the sets instead of them."""
    sets = sets_of(table.width)
    rows = table.rows
    # By position and number of a set: the rows that have a value of the set there, as bits.
    within = [[_rows_within(rows, position, some) for some in sets] for position in range(table.arity)]
    ways = [((), (1 << len(rows)) - 1)]
    for position in range(table.arity):
        ways = [(numbers + (number,), left & bits) for numbers, left in ways
                for number, bits in enumerate(within[position]) if left & bits != 0]
    # The sets of one value tell whether the rows that are left have each value.
    single = [[within[position][sets.index((value,))] for value in range(table.width)]
              for position in range(table.arity)]
    return [numbers for numbers, left in ways if _have_all(left, [sets[number] for number in numbers], single)]


def _rows_within(rows, position, some):
    """The bits of the numbers of the rows that have a value of a set at a position."""
    return sum([1 << number for number, row in enumerate(rows) if row[position] in some])


def _have_all(left, sets, single):
    """Whether some of the rows that are left, as bits, has each value of each set at its position."""
    for position, some in enumerate(sets):
        for value in some:
            if left & single[position][value] == 0:
                return False
    return True


class Fold:
    """A value for each set of values."""

    def __init__(self, width, cells):
        check_width(width)
        if not isinstance(cells, list):
            raise NoList()
        self._sets = sets_of(width)
        if len(cells) != len(self._sets):
            raise BadLength()
        for number, cell in enumerate(cells):
            if not is_below(cell, width):
                raise BadCell(number)
        self.width = width
        self._cells = list(cells)

    @property
    def cells(self):
        """The list of the values for all sets, in ascending order of the sets."""
        return list(self._cells)

    def __call__(self, some):
        if not is_set(some, self.width):
            raise BadArguments()
        return self._cells[self._sets.index(some)]

    def __eq__(self, other):
        return isinstance(other, Fold) and self.width == other.width and self._cells == other._cells

    def renamed(self, order):
        """The fold that does with the values order[v] what this one does with the values v."""
        check_order(order, self.width)
        cells = [0] * len(self._cells)
        for some, cell in zip(self._sets, self._cells):
            new = tuple(sorted([order[value] for value in some]))
            cells[self._sets.index(new)] = order[cell]
        return Fold(self.width, cells)

    @staticmethod
    def of_meet(operation):
        """The fold that gives for each set the meet of all its values."""
        if not _is_meet(operation):
            raise NoMeet()
        cells = []
        for some in sets_of(operation.width):
            cell = some[0]
            for value in some:
                cell = operation((cell, value))
            cells.append(cell)
        return Fold(operation.width, cells)


def _is_meet(operation):
    """Whether an operation is a meet."""
    if operation.arity != 2:
        return False
    values = list(range(operation.width))
    for x in values:
        for y in values:
            if operation((x, y)) != operation((y, x)):
                return False
            for z in values:
                if operation((operation((x, y)), z)) != operation((x, operation((y, z)))):
                    return False
    return all([operation((x, x)) == x for x in values])


def fold_breaks(fold, table):
    """None if the fold keeps the table, else a set-row of it for which it gives no row."""
    if fold.width != table.width:
        raise Unlike()
    sets = sets_of(table.width)
    cells = fold.cells
    rows = {row: True for row in table.rows}
    for numbers in numbered_set_rows(table):
        if tuple([cells[number] for number in numbers]) not in rows:
            return tuple([sets[number] for number in numbers])
    return None


def set_uses(book):
    """By the number of each table, the rows that lay it over the sets as places: one for each of its set-rows."""
    return [[(number, spots) for spots in numbered_set_rows(table)] for number, table in enumerate(book.tables)]


def fold_or_paper(book, uses, numbers):
    """("yes", fold) with a fold that keeps the tables with these numbers, or ("no", puzzle, sets, tree).

    uses is what set_uses tells of the book. The fooling paper is over the whole book, but it uses only these tables.
    """
    sets = sets_of(book.width)
    # An answer of this puzzle gives a value for each set, and keeps the tables just by being an answer.
    puzzle = Puzzle(book, len(sets), [row for number in numbers for row in uses[number]])
    word, told = solved(puzzle)
    if word == "yes":
        return ("yes", Fold(book.width, list(told)))
    part = puzzle.part(rows_named(told))
    kept, tree, _ = lean(part)
    return ("no", part.part(kept), sets, tree)


def folded(book):
    """("yes", fold) with a fold that keeps the book, or ("no", puzzle, sets, tree) with a fooling paper."""
    return fold_or_paper(book, set_uses(book), list(range(len(book))))


def keeps(fold, tables):
    """Whether a fold keeps all of some tables of its width."""
    for table in tables:
        if fold_breaks(fold, table) is not None:
            return False
    return True


def shows_fold(book, value):
    """Whether a value, of any value, is a fold that keeps the book."""
    return isinstance(value, Fold) and value.width == book.width and keeps(value, book.tables)


def shows_fooled(book, value):
    """Whether a value, of any value, is a fooling paper (puzzle, sets, tree) for the book."""
    if not isinstance(value, tuple) or len(value) != 3:
        return False
    puzzle, sets, tree = value
    if not isinstance(puzzle, Puzzle) or puzzle.book != book:
        return False
    # Sets with which no strike is due are just those that make set-rows.
    if not shows_sets(puzzle, sets) or not shows_none(puzzle, (), tree):
        return False
    return rows_named(tree) == list(range(len(puzzle)))


def folds(book):
    """Generate all folds that keep the book, ascending by their cells."""
    rows = [row for some in set_uses(book) for row in some]
    puzzle = Puzzle(book, len(sets_of(book.width)), rows)
    for told in answers(puzzle):
        yield Fold(book.width, list(told))


def answered(fold, puzzle):
    """("yes", answer) by a fold that keeps the book of the puzzle, or ("no", strikes) that empty a place."""
    if fold.width != puzzle.book.width:
        raise Unlike()
    for number, table in enumerate(puzzle.book.tables):
        if fold_breaks(fold, table) is not None:
            raise NoFold(number)
    word, told = emptied(puzzle)
    if word == "yes":
        return ("no", told)
    return ("yes", tuple([fold(some) for some in told]))
