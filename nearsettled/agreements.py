"""Agreements of three or four values. With one that keeps its tables, a book has no dead ends at near places."""

from nearsettled.checks import check_near, is_row
from nearsettled.leans import lean
from nearsettled.operations import all_tuples, breaks, Operation
from nearsettled.puzzles import first_broken, is_choice, Puzzle, shows_none, solved
from nearsettled.trees import rows_named


def _operation_puzzle(book, arity):
    """The puzzle whose places are the tuples of so many values, ascending, and whose answers are the cells of the
    operations that keep the book."""
    numbers = {some: number for number, some in enumerate(all_tuples(book.width, arity))}
    uses = []
    for number, table in enumerate(book.tables):
        rows = table.rows
        for taken in all_tuples(len(rows), arity):
            columns = [tuple([rows[at][position] for at in taken]) for position in range(table.arity)]
            uses.append((number, tuple([numbers[column] for column in columns])))
    return Puzzle(book, len(numbers), uses)


def _agreeing_choice(width, arity):
    """The choice of what all agreements give, in such a puzzle: x where x stands everywhere but at most once."""
    return tuple([(number, value) for number, some in enumerate(all_tuples(width, arity)) for value in range(width)
                  if some.count(value) >= arity - 1])


def agreed(book, near):
    """("yes", operation) with an agreement of near + 1 that keeps the book, or ("no", puzzle, choice, answers, tree)
    with a parted paper."""
    check_near(near, book.width, 2)
    arity = near + 1
    puzzle = _operation_puzzle(book, arity)
    choice = _agreeing_choice(book.width, arity)
    word, told = solved(puzzle, choice=choice)
    if word == "yes":
        return ("yes", Operation(book.width, arity, list(told)))
    part = puzzle.part(rows_named(told))
    kept, tree, _ = lean(part, choice=choice)
    # Of near tuples, each with at most one other value, all have their own at one position: what is taken there.
    takings = [tuple([some[at] for some in all_tuples(book.width, arity)]) for at in range(arity)]
    return ("no", part.part(kept), choice, takings, tree)


def shows_agreement(book, near, value):
    """Whether a value, of any value, is an agreement of near + 1 that keeps the book."""
    check_near(near, book.width, 2)
    if not isinstance(value, Operation) or value.width != book.width or value.arity != near + 1:
        return False
    return value.agrees() and all([breaks(value, table) is None for table in book.tables])


def shows_parted(book, near, value):
    """Whether a value, of any value, is a parted paper (puzzle, choice, answers, tree) for the book."""
    check_near(near, book.width, 2)
    if not isinstance(value, tuple) or len(value) != 4:
        return False
    puzzle, choice, told, tree = value
    if not isinstance(puzzle, Puzzle) or puzzle.book != book:
        return False
    if not is_choice(puzzle, choice) or len(choice) < near or not _are_answers(puzzle, told):
        return False
    if not _stand_together(choice, near, told) or not shows_none(puzzle, choice, tree):
        return False
    return rows_named(tree) == list(range(len(puzzle)))


def _are_answers(puzzle, value):
    """Whether a value, of any value, is a list of answers of the puzzle."""
    if not isinstance(value, list):
        return False
    for told in value:
        if not is_row(told, puzzle.book.width, puzzle.places) or first_broken(puzzle, told) is not None:
            return False
    return True


def _stand_together(choice, near, told):
    """Whether any near pairs of a choice stand together in one of some answers."""
    # By how many pairs are taken: for each way to take them, the bits of the answers in which they stand.
    ways = [[(1 << len(told)) - 1]] + [[] for _ in range(near)]
    for place, value in choice:
        having = sum([1 << at for at, answer in enumerate(told) if answer[place] == value])
        for many in range(near, 0, -1):
            longer = [bits & having for bits in ways[many - 1]]
            ways[many].extend(longer)
    return 0 not in ways[near]


def reach(book):
    """("yes", near, operation, papers) with the least near that has an agreement, and a parted paper for each lesser
    one, or ("no", papers) with a parted paper for each near."""
    papers = []
    for near in range(2, 3 if book.width == 3 else 4):
        found = agreed(book, near)
        if found[0] == "yes":
            return ("yes", near, found[1], papers)
        papers.append(found[1:])
    return ("no", papers)
