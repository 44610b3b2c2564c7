"""Looking at two or three places: which choices are kept, and why the others are struck."""

from nearsettled.checks import check_near, is_below
from nearsettled.nearby import fitting_nodes, joined, Nearby, unlike_rows
from nearsettled.puzzles import is_choice


def kept_choices(puzzle, near):
    """The ascending list of the choices of at most near places that are kept."""
    check_near(near, puzzle.book.width, 2)
    nearby = Nearby(puzzle, near)
    nearby.strike_all(stop=True)
    return nearby.all_kept()


def choice_strikes(puzzle, near):
    """A list of tuples (choice, reason) of all struck choices, each due behind those ahead."""
    check_near(near, puzzle.book.width, 2)
    return Nearby(puzzle, near).strike_all()


def emptied_near(puzzle, near):
    """("yes", strikes) with such tuples that strike the empty choice, if it is struck, else ("no", kept choices)."""
    check_near(near, puzzle.book.width, 2)
    nearby = Nearby(puzzle, near)
    told = nearby.strike_all(stop=True)
    if nearby.has_none:
        return ("yes", told)
    return ("no", nearby.all_kept())


def _numbered(puzzle, near, value):
    """A choice of at most near places by the numbers of its nodes, None if a value, of any value, is none."""
    if not is_choice(puzzle, value) or len(value) > near:
        return None
    return tuple([place * puzzle.book.width + worth for place, worth in value])


def _parts(choice):
    """The list of all parts of a choice, itself among them."""
    found = [()]
    for node in choice:
        longer = [part + (node,) for part in found]
        found.extend(longer)
    return found


class StruckSoFar:
    """What is struck by strikes that are looked over one after the other."""

    def __init__(self, puzzle, near):
        self._puzzle = puzzle
        self._near = near
        self._width = puzzle.book.width
        self._places = [sorted(set(spots)) for _, spots in puzzle.rows]
        unlike = unlike_rows(puzzle)
        self._unlike = {told: True for told in unlike}
        self._broken = {choice: True for choice, number in unlike if len(choice) == len(self._places[number])}
        self._struck = {}

    def takes(self, value):
        """Whether a value, of any value, is a strike that is due; if so, its choice is struck from now on."""
        if not isinstance(value, tuple) or len(value) != 2:
            return False
        choice = _numbered(self._puzzle, self._near, value[0])
        if choice is None or choice in self._struck or not self._is_due(choice, value[1]):
            return False
        self._struck[choice] = True
        return True

    def _is_due(self, choice, reason):
        """Whether a value, of any value, is a reason for which a choice is to be struck."""
        if not isinstance(reason, tuple) or len(reason) != 2:
            return False
        word, told = reason
        if word == "row":
            return is_below(told, len(self._places)) and self._is_unlike(choice, told)
        if word == "part":
            part = _numbered(self._puzzle, self._near, told)
            return part is not None and part != choice and part in _parts(choice) and part in self._struck
        if word == "place":
            return is_below(told, self._puzzle.places) and self._has_none_at(choice, told)
        return False

    def _is_unlike(self, choice, number):
        """Whether no row of the table of a row has what is chosen at its places."""
        part = tuple([node for node in choice if node // self._width in self._places[number]])
        return (part, number) in self._unlike

    def _has_none_at(self, choice, place):
        """Whether a place is not chosen, and each of its values is out for a choice."""
        if place in [node // self._width for node in choice]:
            return False
        parts = _parts(choice)
        if any([part in self._broken for part in parts]):
            return True
        return all([self._is_out(parts, place * self._width + value) for value in range(self._width)])

    def _is_out(self, parts, node):
        """Whether a node makes, with some part of a choice, a struck choice or one that breaks a row."""
        for part in parts:
            whole = joined(part, node)
            if whole in self._struck or whole in self._broken:
                return True
        return False


def shows_choice_strikes(puzzle, near, value):
    """Whether a value, of any value, is a list of strikes of different choices, each due behind those ahead."""
    check_near(near, puzzle.book.width, 2)
    if not isinstance(value, list):
        return False
    so_far = StruckSoFar(puzzle, near)
    for strike in value:
        if not so_far.takes(strike):
            return False
    return True


def shows_kept_choices(puzzle, near, value):
    """Whether a value, of any value, is a list of different choices of which none has a reason to be struck."""
    check_near(near, puzzle.book.width, 2)
    if not isinstance(value, list):
        return False
    kept = {}
    for choice in value:
        numbered = _numbered(puzzle, near, choice)
        if numbered is None or numbered in kept:
            return False
        kept[numbered] = True
    return () in kept and _is_stable(puzzle, near, kept)


def _is_stable(puzzle, near, kept):
    """Whether no choice has a reason to be struck while just those are kept that are the keys of a dict."""
    unlike = [choice for choice, _ in unlike_rows(puzzle)]
    if any([choice in kept for choice in unlike]):
        return False
    partners = {choice: 0 for choice in kept if len(choice) < near}
    for choice in kept:
        for at, node in enumerate(choice):
            rest = choice[:at] + choice[at + 1:]
            if rest not in kept:
                return False
            partners[rest] = partners[rest] | 1 << node
    every = (1 << puzzle.places * puzzle.book.width) - 1
    fitting = fitting_nodes([choice for choice in unlike if len(choice) > near], every)
    # The least value of each place.
    firsts = sum([1 << place * puzzle.book.width for place in range(puzzle.places)])
    for choice in kept:
        if len(choice) < near:
            bits = partners[choice]
        else:
            bits = fitting.get(choice, every)
            for at in range(near):
                bits = bits & partners[choice[:at] + choice[at + 1:]]
        if not _leaves_each_place(bits, choice, puzzle.book.width, firsts):
            return False
    return True


def _leaves_each_place(bits, choice, width, firsts):
    """Whether some of the nodes of each place that is not chosen is among the bits."""
    seen = sum([1 << node // width * width for node in choice])
    for value in range(width):
        seen = seen | bits >> value & firsts
    return seen == firsts
