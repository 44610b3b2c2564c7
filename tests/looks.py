"""A plain look at points 5 to 9 of the document, as the tests have it: nothing here is taken from the package.

A puzzle is only asked for its book (width, tables with their rows), its places and its rows.
"""

import itertools


def is_number(value, limit):
    return type(value) is int and 0 <= value < limit


def is_row_of(puzzle, row, told):
    """Whether the values told at the spots of a row are a row of its table."""
    number, spots = row
    return tuple(told[spot] for spot in spots) in puzzle.book.tables[number].rows


def plain_answers(puzzle, choice=()):
    """All answers that go on with a choice, by a trial of all tuples."""
    return [told for told in itertools.product(range(puzzle.book.width), repeat=puzzle.places)
            if all(told[place] == value for place, value in choice)
            and all(is_row_of(puzzle, row, told) for row in puzzle.rows)]


def plain_choice(puzzle, value):
    """Whether a value is a choice."""
    if type(value) is not tuple or not all(type(pair) is tuple and len(pair) == 2 for pair in value):
        return False
    if not all(is_number(pair[0], puzzle.places) and is_number(pair[1], puzzle.book.width) for pair in value):
        return False
    return all(one[0] < other[0] for one, other in zip(value, value[1:]))


def all_choices(puzzle):
    """All choices of a puzzle."""
    return [tuple((place, value) for place, value in enumerate(told) if value is not None)
            for told in itertools.product([None, *range(puzzle.book.width)], repeat=puzzle.places)]


def plain_tree(puzzle, choice, value):
    """Whether a value is a tree for a choice."""
    chosen = dict(choice)
    if type(value) is not tuple:
        return False
    if len(value) == 2 and type(value[0]) is str and value[0] == "broken" and is_number(value[1], len(puzzle.rows)):
        row = puzzle.rows[value[1]]
        return all(spot in chosen for spot in row[1]) and not is_row_of(puzzle, row, chosen)
    if len(value) == 3 and type(value[0]) is str and value[0] == "split" and is_number(value[1], puzzle.places):
        return (value[1] not in chosen and type(value[2]) is list and len(value[2]) == puzzle.book.width
                and all(plain_tree(puzzle, sorted({**chosen, value[1]: worth}.items()), tree)
                        for worth, tree in enumerate(value[2])))
    return False


def plain_lean(puzzle, choice, value):
    """Whether a value is a tuple (numbers, tree, answers) that shows a lean part for a choice."""
    if type(value) is not tuple or len(value) != 3:
        return False
    numbers, tree, told = value
    if type(numbers) is not list or not all(is_number(number, len(puzzle.rows)) for number in numbers):
        return False
    if any(one >= other for one, other in zip(numbers, numbers[1:])) or type(told) is not list:
        return False
    if len(told) != len(numbers) or not plain_tree(puzzle.part(numbers), choice, tree):
        return False
    for number, answer in zip(numbers, told):
        if type(answer) is not tuple or len(answer) != puzzle.places:
            return False
        if not all(is_number(worth, puzzle.book.width) for worth in answer):
            return False
        if any(answer[place] != worth for place, worth in choice):
            return False
        if not all(is_row_of(puzzle, puzzle.rows[other], answer) for other in numbers if other != number):
            return False
    return True


def first_sets(puzzle, choice=()):
    """What is kept at first: a list of a set for each place."""
    kept = [set(range(puzzle.book.width)) for _ in range(puzzle.places)]
    for place, value in choice:
        kept[place] = {value}
    return kept


def has_partner(puzzle, kept, place, value, number, position):
    """Whether a value has a partner row at a position of a row of the puzzle."""
    table, spots = puzzle.rows[number]
    assert spots[position] == place
    for row in puzzle.book.tables[table].rows:
        if row[position] == value:
            if all(row[other] in kept[spots[other]] for other in range(len(spots)) if other != position):
                return True
    return False


def due(puzzle, kept):
    """All strikes that are due."""
    return [(place, value, number, position) for number, (_, spots) in enumerate(puzzle.rows)
            for position, place in enumerate(spots) for value in sorted(kept[place])
            if not has_partner(puzzle, kept, place, value, number, position)]


def plain_kept(puzzle, choice=(), pick=lambda strikes: strikes[0]):
    """The list of the tuples of the kept values, striking one value after the other, in any order."""
    kept = first_sets(puzzle, choice)
    while due(puzzle, kept):
        place, value, _, _ = pick(due(puzzle, kept))
        kept[place].remove(value)
    return [tuple(sorted(some)) for some in kept]


def plain_behind(puzzle, value, choice=()):
    """What is kept behind the strikes of a list in order, None if a value is none."""
    kept = first_sets(puzzle, choice)
    if type(value) is not list:
        return None
    for strike in value:
        if type(strike) is not tuple or len(strike) != 4 or not all(type(part) is int for part in strike):
            return None
        if strike not in due(puzzle, kept):
            return None
        kept[strike[0]].remove(strike[1])
    return kept


def plain_strikes(puzzle, value, choice=()):
    return plain_behind(puzzle, value, choice) is not None


def plain_emptied(puzzle, value, choice=()):
    kept = plain_behind(puzzle, value, choice)
    return kept is not None and any(some == set() for some in kept)


def plain_sets(puzzle, value):
    """Whether a value is a list of sets, one for each place, with which no strike is due."""
    if type(value) is not list or len(value) != puzzle.places:
        return False
    for some in value:
        if type(some) is not tuple or some == () or not all(is_number(part, puzzle.book.width) for part in some):
            return False
        if list(some) != sorted(set(some)):
            return False
    return due(puzzle, [set(some) for some in value]) == []
