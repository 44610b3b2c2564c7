"""Looking at places: what is kept at a place is an integer, in which the bit v stands for the value v."""


def bits_of(values):
    """The integer that stands for some values, each of them named once."""
    return sum([1 << value for value in values])


def all_bits(width):
    """The integer that stands for all values of a width."""
    return (1 << width) - 1


def values_of(bits, width):
    """The ascending tuple of the values for which an integer stands."""
    return tuple([value for value in range(width) if bits >> value & 1])


def is_one(bits):
    """Whether an integer stands for just one value."""
    return bits > 0 and bits & (bits - 1) == 0


def start(puzzle, choice):
    """What each place of a puzzle keeps at first, if a choice is given."""
    kept = [all_bits(puzzle.book.width)] * puzzle.places
    for place, value in choice:
        kept[place] = 1 << value
    return kept


class Net:
    """The rows of a puzzle, ready for looking at places again and again. Rows may be put and taken away.

    uses: by their numbers the rows of the puzzle; table_rows: for each table of the book its rows; uses_at: for each
    place, as the keys of a dict, the numbers of the rows of the puzzle in which it stands.
    """

    def __init__(self, puzzle):
        self.width = puzzle.book.width
        self.uses = {}
        self.table_rows = [table.rows for table in puzzle.book.tables]
        self.uses_at = [{} for _ in range(puzzle.places)]
        # By table: the bits with a partner row, by the bits that are kept at each position.
        self._partners = [{} for _ in self.table_rows]
        for number, row in enumerate(puzzle.rows):
            self.put(number, row)

    def put(self, number, row):
        """Put a row (table, spots) with a number that no other row has."""
        self.uses[number] = row
        for place in row[1]:
            self.uses_at[place][number] = True

    def take(self, number):
        """Take the row with a number away."""
        for place in sorted(set(self.uses[number][1])):
            del self.uses_at[place][number]
        del self.uses[number]

    def strike(self, kept, numbers, *, stop=False):
        """Strike values, beginning at the rows with these numbers; list the strikes in order.

        What is struck is taken out of kept. With stop, this ends as soon as a place keeps nothing.
        """
        told = []
        waiting = list(numbers)
        waits = {number: True for number in waiting}
        at = 0
        while at < len(waiting):
            number = waiting[at]
            at += 1
            waits[number] = False
            for place in self._strike_row(kept, number, told, stop):
                if stop and kept[place] == 0:
                    return told
                for other in self.uses_at[place]:
                    if not waits.get(other, False):
                        waits[other] = True
                        waiting.append(other)
        return told

    def _strike_row(self, kept, number, told, stop):
        """Strike what one row strikes, tell of it, and list the places where that was."""
        before = tuple([kept[place] for place in self.uses[number][1]])
        after = self._with_partners(self.uses[number][0], before)
        touched = []
        if after != before:
            for position, place in enumerate(self.uses[number][1]):
                # A place may stand twice in the row: what its other position struck is gone already.
                rest = kept[place] & after[position]
                for value in values_of(kept[place] - rest, self.width):
                    told.append((place, value, number, position))
                if rest != kept[place]:
                    kept[place] = rest
                    touched.append(place)
                if stop and rest == 0:
                    return touched
        return touched

    def _with_partners(self, table, kept):
        """What bits_with_partners tells of a table, worked out once for the same bits."""
        partners = self._partners[table]
        if kept not in partners:
            partners[kept] = bits_with_partners(self.table_rows[table], kept)
        return partners[kept]


def bits_with_partners(rows, kept):
    """For each position the bits of the values that stand there in a row of kept values alone."""
    found = [0] * len(kept)
    for row in rows:
        if all([bits >> value & 1 for bits, value in zip(kept, row)]):
            for position, value in enumerate(row):
                found[position] = found[position] | 1 << value
    return tuple(found)
