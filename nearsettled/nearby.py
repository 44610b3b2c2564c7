"""Looking at two or three places at a time: which choices are kept, and the reasons for which the others are struck.

Inside, a pair (place, value) is a number, its node: place * width + value. A choice is the ascending tuple of its
nodes, and nodes that go with a choice are the bits of one integer.
"""

from nearsettled.operations import all_tuples
from nearsettled.search import distinct


def nodes_of(bits):
    """The ascending list of the nodes that stand in an integer."""
    found = []
    while bits > 0:
        least = bits & -bits
        found.append(least.bit_length() - 1)
        bits -= least
    return found


def joined(choice, node):
    """The choice with one more node."""
    return tuple(sorted(choice + (node,)))


def unlike_rows(puzzle):
    """The list of tuples (choice, number of a row): the choices of places of a row alone that are unlike all rows of
    its table; for each row the choices of fewer places come first."""
    known = {}
    found = []
    width = puzzle.book.width
    for number, (table, spots) in enumerate(puzzle.rows):
        places = distinct(spots)
        pattern = tuple([places.index(place) for place in spots])
        if (table, pattern) not in known:
            known[(table, pattern)] = _unlike(puzzle.book[table].rows, pattern, len(places), width)
        for some in known[(table, pattern)]:
            found.append((tuple(sorted([places[at] * width + value for at, value in some])), number))
    return found


def _unlike(rows, pattern, many, width):
    """The list of the tuples of pairs (which of so many places, value) that are unlike all rows, the shorter first.

    pattern names the place of each position.
    """
    found = [[] for _ in range(many + 1)]
    # The width itself stands where nothing is chosen.
    for told in all_tuples(width + 1, many):
        wanted = [told[at] for at in pattern]
        if not any([all([value in (worth, width) for value, worth in zip(wanted, row)]) for row in rows]):
            some = tuple([(at, value) for at, value in enumerate(told) if value < width])
            found[len(some)].append(some)
    return [some for shorter in found for some in shorter]


def fitting_nodes(broken, every):
    """By choice, the bits of the nodes, out of every, that do not make it one of some broken choices."""
    fitting = {}
    for choice in broken:
        for at, node in enumerate(choice):
            rest = choice[:at] + choice[at + 1:]
            bits = fitting.get(rest, every)
            fitting[rest] = bits - (bits & 1 << node)
    return fitting


class Nearby:
    """Looking at near places of a puzzle, near being 2 or 3.

    pairs: for each node its place and value; at_place: for each place the bits of its nodes; partners: for each choice
    of fewer than near places the bits of the nodes with which it makes a kept choice; fitting: for each choice of near
    places that stands in broken rows of more places, the bits of the nodes with which it does not break such a row.
    """

    def __init__(self, puzzle, near):
        self.near = near
        self.width = puzzle.book.width
        self.pairs = [(place, value) for place in range(puzzle.places) for value in range(self.width)]
        self.every = (1 << len(self.pairs)) - 1
        self.at_place = [((1 << self.width) - 1) << place * self.width for place in range(puzzle.places)]
        self.partners = self._all_partners()
        self._unlike = unlike_rows(puzzle)
        self.fitting = fitting_nodes([choice for choice, _ in self._unlike if len(choice) > near], self.every)
        # Whether even the empty choice is struck.
        self.has_none = False
        self._told = []
        # What is to be looked at again: choices of fewer than near places, with a place where a partner is gone.
        self._waiting = []
        self._waits = {}

    def _all_partners(self):
        """The partners of all choices of fewer than near places, while all choices are kept."""
        partners = {(): self.every}
        choices = [()]
        for _ in range(self.near - 1):
            choices = [some + (node,) for some in choices for node in nodes_of(partners[some])
                       if some == () or node > some[-1]]
            for some in choices:
                partners[some] = partners[some[:-1]] - (partners[some[:-1]] & self.at_place[some[-1] // self.width])
        return partners

    def is_kept(self, choice):
        """Whether a choice of at most near places is kept."""
        if choice == ():
            return not self.has_none
        return self.partners[choice[:-1]] >> choice[-1] & 1 == 1

    def strike_all(self, *, stop=False):
        """The list of tuples (choice, reason) of all struck choices, as pairs, each due behind those ahead.

        With stop, this ends as soon as the empty choice is struck.
        """
        for choice, number in self._unlike:
            if len(choice) <= self.near:
                self._strike(choice, ("row", number), stop)
            else:
                self._wake_all(choice)
        at = 0
        while at < len(self._waiting) and not (stop and self.has_none):
            choice, place = self._waiting[at]
            at += 1
            self._waits[(choice, place)] = False
            if self.is_kept(choice):
                self._look(choice, place, stop)
        return self._told

    def _wake_all(self, choice):
        """Let all parts without two nodes of a choice that breaks a row be looked at again, for either's place."""
        for node in choice:
            for other in choice:
                if other != node:
                    self._wake(tuple([one for one in choice if one not in (node, other)]), node // self.width)

    def _wake(self, choice, place):
        """Let a choice of fewer than near places be looked at again, for a place."""
        if not self._waits.get((choice, place), False):
            self._waits[(choice, place)] = True
            self._waiting.append((choice, place))

    def _strike(self, choice, reason, stop):
        """Strike a choice, if it is kept, with all of which it is a part."""
        waiting = [(choice, reason)]
        at = 0
        while at < len(waiting) and not (stop and self.has_none):
            some, why = waiting[at]
            at += 1
            if self.is_kept(some):
                self._take(some, why)
                if len(some) < self.near:
                    # For what the empty choice is struck, each pair alone is.
                    further = why if some == () else ("part", self.as_pairs(some))
                    for node in nodes_of(self.partners[some]):
                        waiting.append((joined(some, node), further))

    def as_pairs(self, choice):
        """The tuple of pairs for which a choice stands."""
        return tuple([self.pairs[node] for node in choice])

    def _take(self, choice, reason):
        """Take away a kept choice, and tell of it."""
        self._told.append((self.as_pairs(choice), reason))
        if choice == ():
            self.has_none = True
        for at, node in enumerate(choice):
            rest = choice[:at] + choice[at + 1:]
            self.partners[rest] -= 1 << node
            if self.is_kept(rest):
                self._wake(rest, node // self.width)

    def _look(self, choice, place, stop):
        """Strike what is to be struck because of a place: a kept choice, or what it makes with one more node."""
        here = self.partners[choice] & self.at_place[place]
        if here == 0:
            self._strike(choice, ("place", place), stop)
        elif len(choice) == self.near - 1:
            supported = self.at_place[place]
            for node in nodes_of(here):
                supported = supported | self.going_with(choice, node)
            partners = self.partners[choice]
            reason = ("place", place)
            # These choices are kept so far, and none of them is a part of others.
            for node in nodes_of(partners - (partners & supported)):
                self._take(joined(choice, node), reason)

    def going_with(self, choice, node):
        """The bits of the nodes with which a choice of near - 1 places and a node have all new parts kept.

        With these, they break no row of near + 1 places.
        """
        bits = self.fitting.get(joined(choice, node), self.every)
        for at in range(len(choice)):
            bits = bits & self.partners[joined(choice[:at] + choice[at + 1:], node)]
        return bits

    def all_kept(self):
        """The ascending list of all kept choices, as pairs."""
        if self.has_none:
            return []
        found = []
        self._add_kept((), (), found)
        return found

    def _add_kept(self, choice, shown, found):
        """Add to a list a kept choice, as it is shown, and all that go on with it at later places, ascending."""
        found.append(shown)
        if len(choice) < self.near:
            for node in nodes_of(self.partners[choice]):
                if choice == () or node > choice[-1]:
                    self._add_kept(choice + (node,), shown + (self.pairs[node],), found)
