"""Search for an answer that goes on with a choice, or for a tree that shows that there is none."""

from nearsettled.apart import apart_order
from nearsettled.guide import place_to_split
from nearsettled.looking import Net, all_bits, bits_of, is_one, values_of

# By the bits that stand for some values: how many these are.
HOW_MANY = (0, 1, 1, 2, 1, 2, 2, 3)
# So many places at the end are gone through without a search.
FEW = 4
# So many steps the first search may take.
FIRST_STEPS = 300
# An order of places in which more of them follow on one another is of no use.
DEEPEST = 30


class Stand:
    """Where a search stands.

    chosen: for each place the chosen value, or None; left: for each place the bits of the values with which no row
    is broken whose other places are chosen; reasons: for each place and value that is not left, the number of a row
    that is broken.
    """

    def __init__(self, chosen, left, reasons):
        self.chosen = chosen
        self.left = left
        self.reasons = reasons


def ways_of(rows, spots):
    """For each place of a row: by the values at its other places, the bits of those that make a row of the table.

    rows are the rows of the table, spots name the places in any way, one for each position.
    """
    places = distinct(spots)
    ways = [{} for _ in places]
    for row in rows:
        values = dict(zip(spots, row))
        if row == tuple([values[place] for place in spots]):
            for at, place in enumerate(places):
                others = tuple([values[other] for other in places if other != place])
                ways[at][others] = ways[at].get(others, 0) | 1 << values[place]
    return ways


def distinct(spots):
    """The places in the order in which they first stand, each once."""
    return [place for at, place in enumerate(spots) if place not in spots[:at]]


class Search:
    """A search through the answers of one puzzle. It may be asked again and again."""

    def __init__(self, puzzle):
        self.width = puzzle.book.width
        self.place_count = puzzle.places
        self.net = Net(puzzle)
        self._numbers = list(range(len(puzzle)))
        self._uses = []
        self._bits = []
        ways = {}
        for table, spots in self.net.uses.values():
            pattern = tuple([spots.index(place) for place in spots])
            if (table, pattern) not in ways:
                ways[(table, pattern)] = ways_of(self.net.table_rows[table], pattern)
            self._uses.append((distinct(spots), ways[(table, pattern)]))
            self._bits.append(bits_of(distinct(spots)))
        # A place weighs more, the more often its rows left a place without a value: it is better chosen early.
        self._weights = [1 + len(numbers) for numbers in self.net.uses_at]
        self._steps = 0
        self._order = None
        self._apart = None

    def found(self, choice):
        """("yes", answer) or ("no", tree), for a choice."""
        stand, number = self.start_with(choice)
        if stand is None:
            return ("no", ("broken", number))
        return self._from(stand)

    def _from(self, stand):
        """("yes", answer) or ("no", tree), for what is chosen."""
        most = FIRST_STEPS
        result = self._tried(stand, most, None)
        if result is None and self._apart is None:
            self._apart = apart_order(list(self.net.uses.values()), self.place_count)
        while result is None:
            # Some puzzles want the places that lie between the others, others those that weigh most: by now they do.
            if self._apart[1] <= DEEPEST:
                result = self._tried(stand, most, self._apart[0])
            most = most * 2
            if result is None:
                result = self._tried(stand, most, None)
        return result[:2]

    def _tried(self, stand, most, order):
        """What _look tells, None if it takes more than so many steps; order is the one of the places, None for any."""
        self._steps = most
        self._order = order
        return self._look(stand, None)

    def start_with(self, choice):
        """(where the search stands when this is chosen, None), or (None, the number of a row that is broken)."""
        left = [all_bits(self.width)] * self.place_count
        stand = Stand([None] * self.place_count, left, [None] * (self.place_count * self.width))
        for number in self._numbers:
            self._narrow(stand, number)
        for place, value in choice:
            if not stand.left[place] >> value & 1:
                return (None, stand.reasons[place * self.width + value])
            stand = self.chosen_too(stand, place, value)
        return (stand, None)

    def chosen_too(self, stand, place, value):
        """Where the search stands when, too, a value that is left at a place is chosen."""
        after = Stand(list(stand.chosen), list(stand.left), list(stand.reasons))
        after.chosen[place] = value
        after.left[place] = 1 << value
        for number in self.net.uses_at[place]:
            self._narrow(after, number)
        return after

    def _narrow(self, stand, number):
        """Leave only what does not break a row, if all of its places but one are chosen."""
        places, ways = self._uses[number]
        others = [stand.chosen[place] for place in places if stand.chosen[place] is not None]
        if len(others) + 1 != len(places):
            return
        at = [stand.chosen[place] for place in places].index(None)
        place = places[at]
        left = stand.left[place]
        rest = left & ways[at].get(tuple(others), 0)
        if rest != left:
            stand.left[place] = rest
            for value in values_of(left - rest, self.width):
                stand.reasons[place * self.width + value] = number
            if rest == 0:
                self._weigh(number)

    def _weigh(self, number):
        """Let the places of a row weigh more."""
        for place in self._uses[number][0]:
            self._weights[place] += 1

    def _look(self, stand, kept):
        """("yes", answer), or ("no", tree, bits): those of the places whose chosen values the tree uses.

        None if this takes more steps than there are. kept is what looking at places kept before something more was
        chosen, None if that is not known.
        """
        place = self._urgent(stand)
        if place is None:
            kept = self._looked(stand, kept)
            place = self._best(stand, kept)
        if place is None:
            return ("yes", tuple(stand.chosen))
        if self._steps < 0:
            return None
        trees = [None] * self.width
        used = 0
        for value in self._values(stand, place, kept):
            if stand.left[place] >> value & 1:
                still = kept if kept is not None and kept[place] >> value & 1 else None
                result = self._look(self.chosen_too(stand, place, value), still)
                # A tree that does not use the value that is chosen here is one without it.
                if result is None or result[0] == "yes" or not result[2] >> place & 1:
                    return result
                trees[value] = result[1]
                used = used | result[2]
            else:
                number = stand.reasons[place * self.width + value]
                trees[value] = ("broken", number)
                used = used | self._bits[number]
        return ("no", ("split", place, trees), used - (1 << place))

    def _values(self, stand, place, kept):
        """All values, those first that most likely lead to an answer."""
        first = stand.left[place] if kept is None else kept[place] & stand.left[place]
        rest = all_bits(self.width) - first
        return values_of(first, self.width) + values_of(rest, self.width)

    def _urgent(self, stand):
        """A place where no value is left, or else one where a single value is, if there is such a place."""
        urgent = None
        for place in range(self.place_count):
            if stand.left[place] == 0:
                return place
            if urgent is None and stand.chosen[place] is None and is_one(stand.left[place]):
                urgent = place
        return urgent

    def _looked(self, stand, kept):
        """What looking at places keeps, None if it empties a place."""
        if kept is None:
            now = list(stand.left)
            numbers = self._numbers
        else:
            now = [bits & left for bits, left in zip(kept, stand.left)]
            numbers = [number for place in range(self.place_count) if now[place] != kept[place]
                       for number in self.net.uses_at[place]]
        if 0 not in now:
            told = self.net.strike(now, numbers, stop=True)
            if 0 in now:
                self._weigh(told[-1][2])
        return None if 0 in now else now

    def _best(self, stand, kept):
        """The place at which to go on, None if all are chosen."""
        if None not in stand.chosen:
            return None
        if kept is None:
            return place_to_split(self.net, stand.chosen, stand.left)
        open_places = [place for place in range(self.place_count) if stand.chosen[place] is None]
        for place in open_places:
            if is_one(kept[place]):
                return place
        self._steps = self._steps - 1
        if self._order is not None:
            return [place for place in self._order if stand.chosen[place] is None][0]
        best = open_places[0]
        for place in open_places:
            if HOW_MANY[kept[place]] * self._weights[best] < HOW_MANY[kept[best]] * self._weights[place]:
                best = place
        return best

    def answers_from(self, stand, place, known):
        """Generate, ascending, the answers that have what is chosen; all places before this one are.

        known is one of these answers, or None if it is not known whether there are any.
        """
        if place == self.place_count:
            yield tuple(stand.chosen)
            return
        following = place + 1
        for value in values_of(stand.left[place], self.width):
            after = stand if stand.chosen[place] is not None else self.chosen_too(stand, place, value)
            if known is not None and known[place] == value:
                yield from self.answers_from(after, following, known)
            elif self.place_count - place <= FEW:
                yield from self.answers_from(after, following, None)
            else:
                # Without asking for one answer first, long ways could be gone that lead to none.
                word, answer = self._from(after)
                if word == "yes":
                    yield from self.answers_from(after, following, answer)
