"""Tables: sets of rows of values of a width."""

from nearsettled.checks import check_arity, check_order, check_width, is_below, is_between, is_row
from nearsettled.errors import BadRow, BadSpots, NoList, Unlike
from nearsettled.operations import all_tuples

GREATEST_ARITY = 3


class Table:
    """A set of rows, each a tuple of as many values as the arity tells."""

    def __init__(self, width, arity, rows):
        check_width(width)
        check_arity(arity, GREATEST_ARITY)
        if not isinstance(rows, list):
            raise NoList()
        for number, row in enumerate(rows):
            if not is_row(row, width, arity):
                raise BadRow(number)
        self.width = width
        self.arity = arity
        self._rows = sorted(set(rows))

    @property
    def rows(self):
        """The ascending list of the rows."""
        return list(self._rows)

    def __len__(self):
        return len(self._rows)

    def __contains__(self, row):
        # Without the check, bools would be found where integers stand.
        return is_row(row, self.width, self.arity) and row in self._rows

    def __eq__(self, other):
        return (isinstance(other, Table) and self.width == other.width and self.arity == other.arity
                and self._rows == other._rows)

    def __and__(self, other):
        if not isinstance(other, Table) or other.width != self.width or other.arity != self.arity:
            raise Unlike()
        return Table(self.width, self.arity, [row for row in self._rows if row in other])

    def __mul__(self, other):
        if not isinstance(other, Table) or other.width != self.width or self.arity + other.arity > GREATEST_ARITY:
            raise Unlike()
        return Table(self.width, self.arity + other.arity, [one + two for one in self._rows for two in other.rows])

    def seen(self, spots):
        """The table of the rows as they are seen at some positions, in this sequence."""
        if not isinstance(spots, tuple) or not is_between(len(spots), 1, GREATEST_ARITY):
            raise BadSpots()
        if not is_row(spots, self.arity, len(spots)):
            raise BadSpots()
        return Table(self.width, len(spots), [tuple([row[spot] for spot in spots]) for row in self._rows])

    def glued(self, one, other):
        """The table of the rows with equal values at two positions."""
        if not is_below(one, self.arity) or not is_below(other, self.arity):
            raise BadSpots()
        return Table(self.width, self.arity, [row for row in self._rows if row[one] == row[other]])

    def renamed(self, order):
        """The table in which each value v is replaced by order[v]."""
        check_order(order, self.width)
        return Table(self.width, self.arity, [tuple([order[value] for value in row]) for row in self._rows])

    @staticmethod
    def full(width, arity):
        """The table of all rows."""
        check_width(width)
        check_arity(arity, GREATEST_ARITY)
        return Table(width, arity, list(all_tuples(width, arity)))

    @staticmethod
    def equal(width):
        """The table of the pairs of equal values."""
        check_width(width)
        return Table(width, 2, [(value, value) for value in range(width)])

    @staticmethod
    def only(width, value):
        """The table of the one row (value,)."""
        return Table(width, 1, [(value,)])
