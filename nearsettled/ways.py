"""Going on with a choice, place by place: what may be chosen at the next place."""

from nearsettled.looking import all_bits, Net
from nearsettled.nearby import joined, Nearby


class Way:
    """Where one stands.

    chosen: for each place the chosen value, or None; good: what tells how one may go on, as the guide keeps it.
    """

    def __init__(self, chosen, good):
        self.chosen = chosen
        self.good = good


class PlacesGuide:
    """The guide who looks at single places. The good of his ways is what is kept at each place, as bits."""

    def __init__(self, puzzle):
        self._width = puzzle.book.width
        self._places = puzzle.places
        self._net = Net(puzzle)

    def struck(self, choice):
        """The choice itself if it is not good, else None."""
        return choice if self.begun(choice) is None else None

    def begun(self, choice):
        """The way that has a choice, None if that is not good."""
        way = self._looked(Way([None] * self._places, [all_bits(self._width)] * self._places), list(self._net.uses))
        for place, value in choice:
            if way is not None:
                way = self.after(way, place, value)
        return way

    def after(self, way, place, value):
        """The way on which a value is chosen too, None if that is not good."""
        if not way.good[place] >> value & 1:
            return None
        good = list(way.good)
        good[place] = 1 << value
        chosen = list(way.chosen)
        chosen[place] = value
        return self._looked(Way(chosen, good), list(self._net.uses_at[place]))

    def _looked(self, way, numbers):
        """The way when values are struck, beginning at some rows; None if a place is emptied."""
        self._net.strike(way.good, numbers, stop=True)
        return None if 0 in way.good else way


class NearGuide:
    """The guide who looks at two or three places. The good of his ways are the nodes that may go with it, as bits."""

    def __init__(self, puzzle, near):
        self._width = puzzle.book.width
        self._places = puzzle.places
        self._near = near
        self._nearby = Nearby(puzzle, near)
        self._nearby.strike_all(stop=True)

    def struck(self, choice):
        """A part of at most near places that is struck, None if there is none."""
        parts = [()]
        for place, value in choice:
            longer = [joined(part, place * self._width + value) for part in parts if len(part) < self._near]
            parts.extend(longer)
        for part in parts:
            if not self._nearby.is_kept(part):
                return self._nearby.as_pairs(part)
        return None

    def begun(self, choice):
        """The way that has a choice, None if that is not good."""
        way = Way([None] * self._places, self._nearby.partners[()])
        if self._nearby.has_none:
            way = None
        for place, value in choice:
            if way is not None:
                way = self.after(way, place, value)
        return way

    def after(self, way, place, value):
        """The way on which a value is chosen too, None if that is not good."""
        node = place * self._width + value
        if not way.good >> node & 1:
            return None
        good = way.good & self._nearby.partners[(node,)]
        if self._near == 3:
            for other, worth in enumerate(way.chosen):
                if worth is not None:
                    good = good & self._nearby.partners[joined((other * self._width + worth,), node)]
        chosen = list(way.chosen)
        chosen[place] = value
        return Way(chosen, good)
