"""Desks: rows of a puzzle that come and go, with what looking at places keeps of them at all times."""

from nearsettled.checks import is_below
from nearsettled.errors import BadPlaces, BadUse, NoMark, NoNumber
from nearsettled.folds import answered
from nearsettled.looking import all_bits, Net, values_of
from nearsettled.puzzles import is_use, Puzzle


class Desk:
    """Rows for a puzzle over a book with a fixed number of places."""

    def __init__(self, book, places):
        # A puzzle raises BadPlaces().
        self._net = Net(Puzzle(book, places, []))
        self._book = book
        self._places = places
        self._following = 0
        self._left = [all_bits(book.width)] * places
        # The strikes that left this, in order.
        self._told = []
        # For each mark: the rows by their numbers, what was left, and the strikes.
        self._marked = []
        self._lost = []
        self._back = []

    @property
    def book(self):
        """The book."""
        return self._book

    @property
    def places(self):
        """The number of places."""
        return self._places

    @property
    def numbers(self):
        """The ascending list of the numbers of the rows that stand."""
        return sorted(self._net.uses)

    @property
    def puzzle(self):
        """A puzzle of the rows that stand, in the order of their numbers."""
        rows = self._net.uses
        return Puzzle(self._book, self._places, [rows[number] for number in sorted(rows)])

    @property
    def changed(self):
        """(lost, back): the pairs (place, value) that the last deed struck, and those that it gave back."""
        return (list(self._lost), list(self._back))

    def __len__(self):
        return len(self._net.uses)

    def __contains__(self, number):
        return is_below(number, self._following) and number in self._net.uses

    def __getitem__(self, number):
        if number not in self:
            raise NoNumber(number)
        return self._net.uses[number]

    def __setitem__(self, number, row):
        if number not in self:
            raise NoNumber(number)
        if not is_use(self._book, self._places, row):
            raise BadUse(number)
        before = self._left
        self._take(number)
        self._put(number, row)
        self._note(before)

    def __iter__(self):
        raise TypeError("a desk is not iterated over: take its numbers")

    def put(self, table, spots):
        """Put a row, and return its number."""
        number = self._following
        if not is_use(self._book, self._places, (table, spots)):
            raise BadUse(number)
        before = self._left
        self._put(number, (table, spots))
        self._following = number + 1
        self._note(before)
        return number

    def withdraw(self, number):
        """Take the row with a number away."""
        if number not in self:
            raise NoNumber(number)
        before = self._left
        self._take(number)
        self._note(before)

    def _put(self, number, row):
        """Put a row with a number, and strike what is to be struck because of it."""
        self._net.put(number, row)
        self._look([number])

    def _take(self, number):
        """Take a row away, and give back what is kept without it."""
        self._net.take(number)
        # Strikes of which the row is not the reason stand without it.
        if any([strike[2] == number for strike in self._told]):
            self._left = [all_bits(self._book.width)] * self._places
            self._told = []
            self._look(self.numbers)

    def _look(self, numbers):
        """Strike what is to be struck, beginning at the rows with some numbers."""
        self._left = list(self._left)
        self._told = self._told + self._net.strike(self._left, numbers)

    def _note(self, before):
        """Note what a deed has changed; before is what was left before it."""
        self._lost = self._pairs(before, self._left)
        self._back = self._pairs(self._left, before)

    def _pairs(self, some, others):
        """The ascending list of the pairs (place, value) that some bits at the places have, and others have not."""
        return [(place, value) for place, bits in enumerate(some)
                for value in values_of(bits - (bits & others[place]), self._book.width)]

    def mark(self):
        """Mark which rows stand, and return the number of the mark."""
        uses = self._net.uses
        self._marked.append(({number: uses[number] for number in uses}, self._left, self._told))
        return len(self._marked) - 1

    def back_to(self, number):
        """Have the rows again that stood at a mark. Later marks end."""
        if not is_below(number, len(self._marked)):
            raise NoMark(number)
        before = self._left
        uses, self._left, self._told = self._marked[number]
        standing = self.numbers
        for other in standing:
            self._net.take(other)
        for other in uses:
            self._net.put(other, uses[other])
        self._marked = self._marked[:number + 1]
        self._note(before)

    def kept(self, place):
        """The ascending tuple of the values that are kept at a place."""
        if not is_below(place, self._places):
            raise BadPlaces()
        return values_of(self._left[place], self._book.width)

    def _all_kept(self, left):
        """The list of the ascending tuples of the values that are left as bits, one for each place."""
        return [values_of(bits, self._book.width) for bits in left]

    def paper(self):
        """("yes", strikes) with strikes in order that empty a place, if there is one, else ("no", kept values)."""
        if 0 in self._left:
            return ("yes", list(self._told))
        return ("no", self._all_kept(self._left))

    def told_by(self, fold):
        """What answered tells of the puzzle, by a fold that keeps the book."""
        return answered(fold, self.puzzle)

    def tried(self, rows):
        """The list of what would be kept at each place if the rows of a list were put."""
        if not isinstance(rows, list):
            raise BadUse(0)
        for at, row in enumerate(rows):
            if not is_use(self._book, self._places, row):
                raise BadUse(at)
        numbers = list(range(self._following, self._following + len(rows)))
        for number, row in zip(numbers, rows):
            self._net.put(number, row)
        left = list(self._left)
        self._net.strike(left, numbers)
        for number in numbers:
            self._net.take(number)
        return self._all_kept(left)

    def copy(self):
        """An independent desk with the same rows, numbers, marks and change."""
        made = Desk(self._book, self._places)
        uses = self._net.uses
        for number in uses:
            made._net.put(number, uses[number])
        made._following = self._following
        made._left = self._left
        made._told = self._told
        # What stands at a mark is never changed.
        made._marked = list(self._marked)
        made._lost = list(self._lost)
        made._back = list(self._back)
        return made
