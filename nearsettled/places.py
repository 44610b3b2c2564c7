"""Looking at places: which values are kept, and the strikes that take away the others."""

from nearsettled.checks import is_below, is_set
from nearsettled.errors import BadChoice
from nearsettled.looking import Net, bits_of, bits_with_partners, start, values_of
from nearsettled.puzzles import is_choice


def _looked(puzzle, choice, stop):
    """What is kept at each place, as bits, and the strikes in order; with stop only until a place is emptied."""
    if not is_choice(puzzle, choice):
        raise BadChoice()
    kept = start(puzzle, choice)
    told = Net(puzzle).strike(kept, list(range(len(puzzle))), stop=stop)
    return (kept, told)


def _tuples(puzzle, kept):
    """The list of the ascending tuples of the values that are kept as bits."""
    return [values_of(bits, puzzle.book.width) for bits in kept]


def kept_values(puzzle, *, choice=()):
    """The list of the ascending tuples of the kept values, one for each place."""
    return _tuples(puzzle, _looked(puzzle, choice, False)[0])


def strikes(puzzle, *, choice=()):
    """A list in order of strikes for all places and values that are struck."""
    return _looked(puzzle, choice, False)[1]


def emptied(puzzle, *, choice=()):
    """("yes", strikes) with strikes in order that empty a place, if there is one, else ("no", kept values)."""
    kept, told = _looked(puzzle, choice, True)
    if 0 in kept:
        return ("yes", told)
    return ("no", _tuples(puzzle, kept))


def _left_behind(puzzle, value, choice):
    """What is kept as bits behind strikes, None if a value, of any value, is no list of strikes in order."""
    if not is_choice(puzzle, choice):
        raise BadChoice()
    if not isinstance(value, list):
        return None
    rows = puzzle.rows
    tables = [table.rows for table in puzzle.book.tables]
    kept = start(puzzle, choice)
    for strike in value:
        if not _is_strike(rows, kept, puzzle.book.width, strike) or not _is_due(rows, tables, kept, strike):
            return None
        kept[strike[0]] = kept[strike[0]] - (1 << strike[1])
    return kept


def _is_strike(rows, kept, width, value):
    """Whether a value, of any value, names a kept value and a row that has its place at its position."""
    if not isinstance(value, tuple) or len(value) != 4:
        return False
    place, worth, number, position = value
    if not is_below(place, len(kept)) or not is_below(worth, width) or not is_below(number, len(rows)):
        return False
    spots = rows[number][1]
    return is_below(position, len(spots)) and spots[position] == place and kept[place] >> worth & 1 == 1


def _is_due(rows, tables, kept, strike):
    """Whether a kept value has no partner row at its position of a row."""
    table, spots = rows[strike[2]]
    partners = bits_with_partners(tables[table], [kept[spot] for spot in spots])
    return partners[strike[3]] >> strike[1] & 1 == 0


def shows_strikes(puzzle, value, *, choice=()):
    """Whether a value, of any value, is a list of strikes in order."""
    return _left_behind(puzzle, value, choice) is not None


def shows_emptied(puzzle, value, *, choice=()):
    """Whether a value, of any value, is a list of strikes in order that empties a place."""
    kept = _left_behind(puzzle, value, choice)
    return kept is not None and 0 in kept


def shows_sets(puzzle, value):
    """Whether a value, of any value, is a list of sets, one for each place, with which no strike is due."""
    if not isinstance(value, list) or len(value) != puzzle.places:
        return False
    if not all([is_set(some, puzzle.book.width) for some in value]):
        return False
    kept = [bits_of(some) for some in value]
    return Net(puzzle).strike(kept, list(range(len(puzzle)))) == []
