"""Going on with a choice, place by place, with values that nearby show no fault; and the dead ends on such ways."""

from nearsettled.checks import check_near
from nearsettled.errors import BadChoice
from nearsettled.puzzles import is_choice
from nearsettled.ways import NearGuide, PlacesGuide


class Going:
    """Going on in one puzzle by near 1, 2 or 3."""

    def __init__(self, puzzle, near):
        self.guide = PlacesGuide(puzzle) if near == 1 else NearGuide(puzzle, near)
        self.place_count = puzzle.places
        self.width = puzzle.book.width
        self.all_rows = puzzle.rows
        self._rows_at = [[] for _ in range(puzzle.places)]
        for row in self.all_rows:
            for place in sorted(set(row[1])):
                self._rows_at[place].append(row)
        self._tables = [{row: True for row in table.rows} for table in puzzle.book.tables]

    def broken_among(self, rows, chosen):
        """The number, among some rows, of the first one that has all its places chosen and is broken, or None."""
        for number, (table, spots) in enumerate(rows):
            told = tuple([chosen[spot] for spot in spots])
            if None not in told and told not in self._tables[table]:
                return number
        return None

    def ways_on(self, way, place):
        """The list of the ways on which one goes on at a place, by the least value first."""
        if way.chosen[place] is not None:
            return [way]
        found = []
        for value in range(self.width):
            after = self.guide.after(way, place, value)
            if after is not None and self.broken_among(self._rows_at[place], after.chosen) is None:
                found.append(after)
        return found


def _as_choice(chosen):
    """The choice of what is chosen: a value or None for each place."""
    return tuple([(place, value) for place, value in enumerate(chosen) if value is not None])


def gone_on(puzzle, near, choice):
    """How going on with a choice ends: ("struck", part), ("broken", number), ("stuck", choice, place) or
    ("yes", answer)."""
    check_near(near, puzzle.book.width, 1)
    if not is_choice(puzzle, choice):
        raise BadChoice()
    going = Going(puzzle, near)
    part = going.guide.struck(choice)
    if part is not None:
        return ("struck", part)
    way = going.guide.begun(choice)
    number = going.broken_among(going.all_rows, way.chosen)
    if number is not None:
        return ("broken", number)
    for place in range(puzzle.places):
        ways = going.ways_on(way, place)
        if ways == []:
            return ("stuck", _as_choice(way.chosen), place)
        way = ways[0]
    return ("yes", tuple(way.chosen))


def answers_near(puzzle, near):
    """Generate the answers to which one comes from the empty choice, choosing each value in turn."""
    check_near(near, puzzle.book.width, 1)
    going = Going(puzzle, near)
    way = going.guide.begun(())
    if way is not None:
        yield from _ends(going, way, 0)


def _ends(going, way, place):
    """Generate the answers to which one comes on a way that has all places before this one."""
    if place == going.place_count:
        yield tuple(way.chosen)
        return
    following = place + 1
    for after in going.ways_on(way, place):
        yield from _ends(going, after, following)


def dead_ends(puzzle, near):
    """The ascending list of the choices at which one is stuck on these ways."""
    check_near(near, puzzle.book.width, 1)
    going = Going(puzzle, near)
    found = []
    way = going.guide.begun(())
    if way is not None:
        _add_dead_ends(going, way, 0, found)
    return found


def _add_dead_ends(going, way, place, found):
    """Add to a list, ascending, the dead ends on a way that has all places before this one."""
    if place < going.place_count:
        ways = going.ways_on(way, place)
        if ways == []:
            found.append(_as_choice(way.chosen))
        for after in ways:
            _add_dead_ends(going, after, place + 1, found)
