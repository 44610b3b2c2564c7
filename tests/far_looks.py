"""A plain look at points 10 to 18 of the document, as the tests have it: nothing here is taken from the package.

Folds and operations are only asked for width, arity and cells, books and puzzles for what they hold. What is of the
classes of the package is known by the name of its class.
"""

import itertools

from tests.looks import is_number, is_row_of, plain_choice, plain_kept, plain_tree


def is_of(value, name):
    """Whether a value is of the class of the package with this name."""
    return type(value).__name__ == name and type(value).__module__.startswith("nearsettled.")


def same_book(one, other):
    """Whether two books have equal tables."""
    return one.width == other.width and [(table.arity, table.rows) for table in one.tables] == [
        (table.arity, table.rows) for table in other.tables]


def all_sets(width):
    return sorted(part for many in range(1, width + 1) for part in itertools.combinations(range(width), many))


def is_plain_set(value, width):
    return type(value) is tuple and all(type(part) is int for part in value) and value in all_sets(width)


def is_set_row(table, sets):
    """Whether sets are a set-row of a table."""
    for at, some in enumerate(sets):
        for value in some:
            if not any(row[at] == value and all(one in part for one, part in zip(row, sets)) for row in table.rows):
                return False
    return True


def plain_set_rows(table):
    """All set-rows of a table, ascending."""
    return [sets for sets in itertools.product(all_sets(table.width), repeat=table.arity) if is_set_row(table, sets)]


def cells_keep(width, cells, set_rows, rows):
    """Whether what a fold with these cells gives for each of some set-rows is one of some rows."""
    told = dict(zip(all_sets(width), cells))
    return all(tuple(told[some] for some in sets) in rows for sets in set_rows)


def keeps_plainly(fold, table):
    return cells_keep(fold.width, fold.cells, plain_set_rows(table), table.rows)


def plain_folds(width, tables):
    """The cells of all folds that keep some tables, ascending, by a trial of all."""
    sets = all_sets(width)
    known = [(plain_set_rows(table), set(table.rows)) for table in tables]
    return [list(cells) for cells in itertools.product(range(width), repeat=len(sets))
            if all(cells_keep(width, cells, set_rows, rows) for set_rows, rows in known)]


def plain_fold(book, value):
    """Whether a value is a fold that keeps the book."""
    return (is_of(value, "Fold") and value.width == book.width
            and all(keeps_plainly(value, table) for table in book.tables))


def names(tree):
    """The numbers of the rows that a tree names."""
    return {tree[1]} if tree[0] == "broken" else set().union(*map(names, tree[2]))


def shows_all_rows(puzzle, choice, tree):
    """Whether a value is a tree for a choice that names each row of the puzzle."""
    return plain_tree(puzzle, choice, tree) and names(tree) == set(range(len(puzzle.rows)))


def plain_fooled(book, value):
    """Whether a value is a fooling paper over the book."""
    if type(value) is not tuple or len(value) != 3 or not is_of(value[0], "Puzzle"):
        return False
    puzzle, sets, tree = value
    if not same_book(puzzle.book, book) or type(sets) is not list or len(sets) != puzzle.places:
        return False
    if not all(is_plain_set(some, book.width) for some in sets):
        return False
    if not all(is_set_row(book.tables[table], [sets[spot] for spot in spots]) for table, spots in puzzle.rows):
        return False
    return shows_all_rows(puzzle, (), tree)


def near_choices(puzzle, near):
    """All choices of at most near places."""
    return [tuple(zip(places, values)) for many in range(near + 1)
            for places in itertools.combinations(range(puzzle.places), many)
            for values in itertools.product(range(puzzle.book.width), repeat=many)]


def all_parts(choice):
    return [part for many in range(len(choice) + 1) for part in itertools.combinations(choice, many)]


def like_no_row(puzzle, choice, number):
    """Whether no row of the table of a row has the chosen values where places are chosen."""
    table, spots = puzzle.rows[number]
    told = dict(choice)
    return not any(all(told.get(spot, worth) == worth for spot, worth in zip(spots, row))
                   for row in puzzle.book.tables[table].rows)


def breaks_some(puzzle, choice):
    """Whether a choice breaks a row all of whose places it has."""
    told = dict(choice)
    return any(all(spot in told for spot in row[1]) and not is_row_of(puzzle, row, told) for row in puzzle.rows)


def out_at(puzzle, near, struck, choice, place):
    """Whether a place that is not chosen has no value for a choice."""
    if place in dict(choice):
        return False
    for value in range(puzzle.book.width):
        whole = tuple(sorted([*choice, (place, value)]))
        parts = [part for part in all_parts(whole) if len(part) <= near and (place, value) in part]
        if not any(part in struck for part in parts) and not breaks_some(puzzle, whole):
            return False
    return True


def plain_reasons(puzzle, near, struck, choice):
    """All reasons for a choice to be struck, when others are."""
    found = [("row", number) for number in range(len(puzzle.rows)) if like_no_row(puzzle, choice, number)]
    found += [("part", part) for part in all_parts(choice) if part != choice and part in struck]
    return found + [("place", place) for place in range(puzzle.places) if out_at(puzzle, near, struck, choice, place)]


def plain_struck(puzzle, near, pick=lambda choices: choices):
    """The set of all choices of at most near places that are struck."""
    struck = set()
    before = None
    while before != len(struck):
        before = len(struck)
        for choice in pick(near_choices(puzzle, near)):
            if choice not in struck and plain_reasons(puzzle, near, struck, choice):
                struck.add(choice)
    return struck


def plain_kept_choices(puzzle, near):
    struck = plain_struck(puzzle, near)
    return sorted(choice for choice in near_choices(puzzle, near) if choice not in struck)


def plain_choice_strikes(puzzle, near, value):
    """Whether a value is a list of strikes of different choices, each due behind those ahead."""
    if type(value) is not list:
        return False
    struck = set()
    for strike in value:
        if type(strike) is not tuple or len(strike) != 2 or not plain_choice(puzzle, strike[0]):
            return False
        choice, reason = strike
        if len(choice) > near or choice in struck or type(reason) is not tuple or len(reason) != 2:
            return False
        word, told = reason
        if word == "part" and not plain_choice(puzzle, told) or word != "part" and type(told) is not int:
            return False
        if reason not in plain_reasons(puzzle, near, struck, choice):
            return False
        struck.add(choice)
    return True


def plain_shows_kept(puzzle, near, value):
    """Whether a value is a list of different choices, () among them, none of which has a reason to be struck."""
    if type(value) is not list or not all(plain_choice(puzzle, one) and len(one) <= near for one in value):
        return False
    if len(set(value)) < len(value) or () not in value:
        return False
    struck = set(near_choices(puzzle, near)) - set(value)
    return not any(plain_reasons(puzzle, near, struck, choice) for choice in value)


def plain_breaks(width, arity, cells, table):
    """Whether there are rows of a table for which an operation gives none."""
    told = dict(zip(itertools.product(range(width), repeat=arity), cells))
    return any(tuple(told[column] for column in zip(*rows)) not in table.rows
               for rows in itertools.product(table.rows, repeat=arity))


def agreements(width, arity):
    """The cells of all agreements, ascending."""
    ways = []
    for some in itertools.product(range(width), repeat=arity):
        fixed = [value for value in range(width) if some.count(value) >= arity - 1]
        ways.append(fixed if fixed else range(width))
    return [list(cells) for cells in itertools.product(*ways)]


def plain_agreement(book, near, value):
    """Whether a value is an agreement of near + 1 that keeps the book."""
    return (is_of(value, "Operation") and (value.width, value.arity) == (book.width, near + 1)
            and value.cells in agreements(book.width, near + 1)
            and not any(plain_breaks(book.width, near + 1, value.cells, table) for table in book.tables))


def plain_parted(book, near, value):
    """Whether a value is a parted paper over the book."""
    if type(value) is not tuple or len(value) != 4 or not is_of(value[0], "Puzzle"):
        return False
    puzzle, choice, told, tree = value
    if not same_book(puzzle.book, book) or not plain_choice(puzzle, choice) or len(choice) < near:
        return False
    if type(told) is not list:
        return False
    for answer in told:
        if type(answer) is not tuple or len(answer) != puzzle.places:
            return False
        if not all(is_number(worth, book.width) for worth in answer):
            return False
        if not all(is_row_of(puzzle, row, answer) for row in puzzle.rows):
            return False
    for pairs in itertools.combinations(choice, near):
        if not any(all(answer[place] == worth for place, worth in pairs) for answer in told):
            return False
    return shows_all_rows(puzzle, choice, tree)


class PlainGoing:
    """Going on in a puzzle by near 1, 2 or 3."""

    def __init__(self, puzzle, near):
        self.puzzle = puzzle
        self.near = near
        self.struck = set() if near == 1 else plain_struck(puzzle, near)

    def is_good(self, choice):
        if self.near == 1:
            return () not in plain_kept(self.puzzle, choice)
        return not any(part in self.struck for part in all_parts(choice) if len(part) <= self.near)

    def lets(self, choice):
        return self.is_good(choice) and not breaks_some(self.puzzle, choice)

    def nexts(self, choice, place):
        """The choices with one more place, those that are let."""
        more = [tuple(sorted([*choice, (place, value)])) for value in range(self.puzzle.book.width)]
        return [one for one in more if self.lets(one)]

    def end(self, choice):
        """How going on ends: for a choice that is not good, "struck" alone."""
        if not self.is_good(choice):
            return ("struck",)
        told = dict(choice)
        for number, row in enumerate(self.puzzle.rows):
            if all(spot in told for spot in row[1]) and not is_row_of(self.puzzle, row, told):
                return ("broken", number)
        for place in range(self.puzzle.places):
            if place not in dict(choice):
                nexts = self.nexts(choice, place)
                if not nexts:
                    return ("stuck", choice, place)
                choice = nexts[0]
        return ("yes", tuple(value for _, value in choice))

    def ends(self):
        """(all answers, all dead ends) on the ways from the empty choice."""
        ways = [()] if self.is_good(()) else []
        stuck = []
        for place in range(self.puzzle.places):
            stuck += [choice for choice in ways if not self.nexts(choice, place)]
            ways = [one for choice in ways for one in self.nexts(choice, place)]
        return [tuple(value for _, value in choice) for choice in ways], sorted(stuck)


def all_lists(many):
    """All ascending lists of numbers below a bound, the shorter first."""
    return [list(some) for length in range(many + 1) for some in itertools.combinations(range(many), length)]


def settled_lists(book):
    """All ascending lists of numbers of tables that a fold keeps together, by a trial of all folds."""
    found = set()
    known = [(plain_set_rows(table), set(table.rows)) for table in book.tables]
    for cells in itertools.product(range(book.width), repeat=len(all_sets(book.width))):
        found.add(tuple(number for number, (set_rows, rows) in enumerate(known)
                        if cells_keep(book.width, cells, set_rows, rows)))
    return [numbers for numbers in all_lists(len(book.tables)) if any(set(numbers) <= set(some) for some in found)]


def is_list_of_numbers(value, limit):
    return (type(value) is list and all(is_number(one, limit) for one in value)
            and all(one < other for one, other in zip(value, value[1:])))


def keeps_part(book, numbers, value):
    """Whether a value is a fold that keeps the tables with these numbers."""
    return (is_of(value, "Fold") and value.width == book.width
            and all(keeps_plainly(value, book.tables[number]) for number in numbers))


def tables_used(paper):
    return {table for table, _ in paper[0].rows}


def plain_sub_books(book, value):
    """Whether a value is a tuple (parts, papers) that covers all parts of a book."""
    if type(value) is not tuple or len(value) != 2 or type(value[0]) is not list or type(value[1]) is not list:
        return False
    parts, papers = value
    for part in parts:
        if type(part) is not tuple or len(part) != 2 or not is_list_of_numbers(part[0], len(book.tables)):
            return False
        if not keeps_part(book, *part):
            return False
    if not all(plain_fooled(book, paper) for paper in papers):
        return False
    return all(any(set(numbers) <= set(part[0]) for part in parts)
               or any(tables_used(paper) <= set(numbers) for paper in papers) for numbers in all_lists(len(book.tables)))


def plain_drop(book, value):
    """Whether a value is a tuple (numbers, fold, papers) that shows a least drop."""
    if type(value) is not tuple or len(value) != 3 or not is_list_of_numbers(value[0], len(book.tables)):
        return False
    numbers, fold, papers = value
    if not keeps_part(book, [number for number in range(len(book.tables)) if number not in numbers], fold):
        return False
    if type(papers) is not list or not all(plain_fooled(book, paper) for paper in papers):
        return False
    return not any(len(fewer) < len(numbers) and all(tables_used(paper) & set(fewer) for paper in papers)
                   for fewer in all_lists(len(book.tables)))


