"""Lean parts: rows that leave no answer, though all of them but any one do."""

from nearsettled.checks import are_numbers, is_row
from nearsettled.errors import BadChoice, HasAnswer
from nearsettled.puzzles import breaks_row, is_choice, shows_none, solved
from nearsettled.trees import renumbered, rows_named


def lean(puzzle, *, choice=()):
    """(numbers, tree, answers): a lean part of the puzzle for a choice, and what shows that it is one."""
    # This raises BadChoice().
    word, tree = solved(puzzle, choice=choice)
    if word == "yes":
        raise HasAnswer(tree)
    numbers = rows_named(tree)
    without = {}
    for number in list(numbers):
        # A row that a later tree did without is no longer in question.
        if number in numbers and number not in without:
            rest = [other for other in numbers if other != number]
            word, told = solved(puzzle.part(rest), choice=choice)
            if word == "yes":
                without[number] = told
                _turn(puzzle, numbers, choice, without, number)
            else:
                tree = renumbered(told, rest)
                numbers = rows_named(tree)
    places = {number: at for at, number in enumerate(numbers)}
    return (numbers, renumbered(tree, places), [without[number] for number in numbers])


def _turn(puzzle, numbers, choice, without, number):
    """Put into without, by the rows, what else is found from the answer that is there for one row.

    Changed at one place, an answer of all rows but one may be an answer of all rows but another one. This saves many
    searches.
    """
    rows = puzzle.rows
    waiting = [number]
    while waiting != []:
        old = waiting.pop()
        for place, answer in _changed(puzzle, choice, rows[old][1], without[old]):
            broken = [other for other in numbers if place in rows[other][1] and breaks_row(puzzle, rows[other], answer)]
            if len(broken) == 1 and broken[0] not in without:
                without[broken[0]] = answer
                waiting.append(broken[0])


def _changed(puzzle, choice, spots, answer):
    """The list of tuples (place, answer changed at this place) for some places, but not for chosen ones."""
    chosen = {place: True for place, _ in choice}
    return [(place, answer[:place] + (value,) + answer[place + 1:]) for place in spots if place not in chosen
            for value in range(puzzle.book.width)]


def shows_lean(puzzle, choice, value):
    """Whether a value, of any value, is a tuple (numbers, tree, answers) that shows a lean part for a choice."""
    if not is_choice(puzzle, choice):
        raise BadChoice()
    if not isinstance(value, tuple) or len(value) != 3:
        return False
    numbers, tree, told = value
    if not are_numbers(numbers, len(puzzle)) or not isinstance(told, list) or len(told) != len(numbers):
        return False
    part = puzzle.part(numbers)
    if not shows_none(part, choice, tree):
        return False
    for at, answer in enumerate(told):
        if not _goes_without(part, choice, at, answer):
            return False
    return True


def _goes_without(puzzle, choice, number, value):
    """Whether a value, of any value, goes on with a choice and breaks no row of the puzzle but perhaps this one."""
    if not is_row(value, puzzle.book.width, puzzle.places):
        return False
    if not all([value[place] == worth for place, worth in choice]):
        return False
    for other, row in enumerate(puzzle.rows):
        if other != number and breaks_row(puzzle, row, value):
            return False
    return True
