"""Operations on the values of a width, and whether they keep tables."""

from nearsettled.checks import check_arity, check_order, check_width, is_below, is_row
from nearsettled.errors import BadArguments, BadCell, BadLength, BadSpots, NoList, Unlike

GREATEST_ARITY = 4


def all_tuples(width, length):
    """Generate all tuples of values of a width that have a length, ascending."""
    some = (0,) * length
    if width < 1 and length > 0:
        some = None
    while some is not None:
        yield some
        some = _tuple_after(some, width)


def _tuple_after(some, width):
    """The next tuple in ascending order, None behind the last one."""
    for at in range(len(some) - 1, -1, -1):
        if some[at] + 1 < width:
            return some[:at] + (some[at] + 1,) + (0,) * (len(some) - at - 1)
    return None


def _count_of_tuples(width, length):
    """How many tuples of values of a width have a length."""
    many = 1
    for _ in range(length):
        many = many * width
    return many


def _number_of(some, width):
    """The number, from 0, of a tuple of values among those of its length, ascending."""
    number = 0
    for value in some:
        number = number * width + value
    return number


class Operation:
    """A value for each tuple of as many values as the arity tells."""

    def __init__(self, width, arity, cells):
        check_width(width)
        check_arity(arity, GREATEST_ARITY)
        if not isinstance(cells, list):
            raise NoList()
        if len(cells) != _count_of_tuples(width, arity):
            raise BadLength()
        for number, cell in enumerate(cells):
            if not is_below(cell, width):
                raise BadCell(number)
        self.width = width
        self.arity = arity
        self._cells = list(cells)

    @property
    def cells(self):
        """The list of the values for all tuples, in ascending order of the tuples."""
        return list(self._cells)

    def __call__(self, arguments):
        if not is_row(arguments, self.width, self.arity):
            raise BadArguments()
        return self._cells[_number_of(arguments, self.width)]

    def __eq__(self, other):
        return (isinstance(other, Operation) and self.width == other.width and self.arity == other.arity
                and self._cells == other._cells)

    def agrees(self):
        """Whether this is an agreement: it gives x wherever x stands everywhere but at most once."""
        if self.arity < 3:
            return False
        for some, cell in zip(all_tuples(self.width, self.arity), self._cells):
            for value in range(self.width):
                if some.count(value) >= self.arity - 1 and cell != value:
                    return False
        return True

    def renamed(self, order):
        """The operation that does with the values order[v] what this one does with the values v."""
        check_order(order, self.width)
        cells = [0] * len(self._cells)
        for some, cell in zip(all_tuples(self.width, self.arity), self._cells):
            new = tuple([order[value] for value in some])
            cells[_number_of(new, self.width)] = order[cell]
        return Operation(self.width, self.arity, cells)

    @staticmethod
    def taking(width, arity, at):
        """The operation that gives the argument at a position, from 0."""
        check_width(width)
        check_arity(arity, GREATEST_ARITY)
        if not is_below(at, arity):
            raise BadSpots()
        return Operation(width, arity, [some[at] for some in all_tuples(width, arity)])

    @staticmethod
    def by(width, arity, function):
        """The operation whose cells are what a function of a tuple returns."""
        check_width(width)
        check_arity(arity, GREATEST_ARITY)
        cells = []
        for some in all_tuples(width, arity):
            cell = function(some)
            if not is_below(cell, width):
                raise BadCell(len(cells))
            cells.append(cell)
        return Operation(width, arity, cells)


def breaks(operation, table):
    """None if the operation keeps the table, else rows of it for which it gives no row."""
    if operation.width != table.width:
        raise Unlike()
    # At each position: the cells that can still be given, once the rows so far are taken.
    ways = {(tuple(operation.cells),) * table.arity: []}
    for _ in range(operation.arity):
        ways = _longer_ways(ways, table)
    for left, taken in ways.items():
        if tuple([cells[0] for cells in left]) not in table:
            return taken
    return None


def _longer_ways(ways, table):
    """The ways, by what cells are left at each position, when one more row is taken."""
    longer = {}
    rows = table.rows
    for left, taken in ways.items():
        many = len(left[0]) // table.width
        for row in rows:
            rest = tuple([cells[value * many:value * many + many] for cells, value in zip(left, row)])
            # Ways that leave the same cells come to the same rows: one of them is enough.
            if rest not in longer:
                longer[rest] = taken + [row]
    return longer
