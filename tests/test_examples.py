"""The examples of the interface, word for word."""

import os
import re
import unittest

DOCUMENT = os.path.join(os.path.dirname(__file__), "..", "..", "shared", "DOC.md")

EXAMPLES = r"""
>>> from nearsettled.tables import Table
>>> unlike = Table(2, 2, [(1, 0), (0, 1)])
>>> [unlike.rows, (0, 0) in unlike, (unlike * Table.only(2, 1)).rows, unlike.seen((1, 1)).rows, unlike.glued(0, 1).rows]
[[(0, 1), (1, 0)], False, [(0, 1, 1), (1, 0, 1)], [(0, 0), (1, 1)], []]

>>> from nearsettled.tables import Table
>>> Table(2, 2, [(0, 1), (0, 2)])
raises BadRow(number=1)

>>> from nearsettled.operations import Operation, breaks
>>> from nearsettled.tables import Table
>>> least = Operation(2, 2, [0, 0, 0, 1])
>>> [least((1, 0)), breaks(least, Table(2, 2, [(0, 0), (0, 1), (1, 1)])), least.agrees(), Operation.taking(2, 3, 1)((0, 1, 0))]
[0, None, False, 1]

>>> from nearsettled.puzzles import answers, Book, first_broken, Puzzle, shows_none, solved
>>> from nearsettled.tables import Table
>>> book = Book(2, [Table(2, 2, [(0, 1), (1, 0)])])
>>> ring = Puzzle(book, 3, [(0, (0, 1)), (0, (1, 2)), (0, (2, 0))])
>>> tree = ('split', 0, [('broken', 0), ('broken', 0)])
>>> [list(answers(ring.part([0, 1]))), first_broken(ring, (0, 1, 0)), solved(ring)[0], shows_none(Puzzle(book, 1, [(0, (0, 0))]), (), tree)]
[[(0, 1, 0), (1, 0, 1)], 2, 'no', True]

>>> from nearsettled.leans import lean
>>> from nearsettled.puzzles import Book, Puzzle
>>> from nearsettled.tables import Table
>>> lean(Puzzle(Book(2, [Table(2, 2, [(0, 1), (1, 0)])]), 2, [(0, (0, 1)), (0, (0, 0))]))[0]
[1]

>>> from nearsettled.leans import lean
>>> from nearsettled.puzzles import Book, Puzzle
>>> from nearsettled.tables import Table
>>> lean(Puzzle(Book(2, [Table.only(2, 1)]), 1, [(0, (0,))]))
raises HasAnswer(answer=(1,))

>>> from nearsettled.places import emptied, kept_values
>>> from nearsettled.puzzles import Book, Puzzle
>>> from nearsettled.tables import Table
>>> book = Book(2, [Table(2, 2, [(0, 0), (0, 1), (1, 1)]), Table.only(2, 0), Table(2, 2, [(0, 1), (1, 0)])])
>>> puzzle = Puzzle(book, 2, [(0, (0, 1)), (1, (1,))])
>>> [kept_values(puzzle), kept_values(puzzle.part([0]), choice=((0, 1),)), emptied(Puzzle(book, 1, [(2, (0, 0))]))]
[[(0,), (0,)], [(1,), (1,)], ('no', [(0, 1)])]

>>> from nearsettled.folds import folded, folds, set_rows, sets_of
>>> from nearsettled.puzzles import Book
>>> from nearsettled.tables import Table
>>> unlike, at_most = Table(2, 2, [(0, 1), (1, 0)]), Table(2, 2, [(0, 0), (0, 1), (1, 1)])
>>> [sets_of(2), set_rows(unlike), folded(Book(2, [unlike]))[0], [fold.cells for fold in folds(Book(2, [at_most]))]]
[[(0,), (0, 1), (1,)], [((0,), (1,)), ((0, 1), (0, 1)), ((1,), (0,))], 'no', [[0, 0, 0], [0, 0, 1], [0, 1, 1], [1, 1, 1]]]

>>> from nearsettled.choices import emptied_near, kept_choices
>>> from nearsettled.puzzles import Book, Puzzle
>>> from nearsettled.tables import Table
>>> book = Book(2, [Table(2, 2, [(0, 1), (1, 0)])])
>>> [kept_choices(Puzzle(book, 2, [(0, (0, 1))]), 2), emptied_near(Puzzle(book, 3, [(0, (0, 1)), (0, (1, 2)), (0, (2, 0))]), 2)[0]]
[[(), ((0, 0),), ((0, 0), (1, 1)), ((0, 1),), ((0, 1), (1, 0)), ((1, 0),), ((1, 1),)], 'yes']

>>> from nearsettled.agreements import agreed, reach
>>> from nearsettled.puzzles import Book
>>> from nearsettled.tables import Table
>>> word, majority = agreed(Book(2, [Table(2, 2, [(0, 1), (1, 0)])]), 2)
>>> rows = [(0, 0, 1), (0, 1, 0), (0, 1, 1), (1, 0, 0), (1, 0, 1), (1, 1, 0), (1, 1, 1)]
>>> [word, majority.cells, reach(Book(2, [Table(2, 3, rows)]))[:2]]
['yes', [0, 0, 0, 1, 0, 1, 1, 1], ('yes', 3)]

>>> from nearsettled.going import answers_near, dead_ends, gone_on
>>> from nearsettled.puzzles import Book, Puzzle
>>> from nearsettled.tables import Table
>>> book = Book(2, [Table(2, 2, [(0, 1), (1, 0)])])
>>> way, ring = Puzzle(book, 3, [(0, (0, 1)), (0, (1, 2))]), Puzzle(book, 3, [(0, (0, 1)), (0, (1, 2)), (0, (2, 0))])
>>> [gone_on(way, 2, ((0, 1),)), list(answers_near(way, 2)), dead_ends(way, 2), gone_on(ring, 2, ())]
[('yes', (1, 0, 1)), [(0, 1, 0), (1, 0, 1)], [], ('struck', ())]

>>> from nearsettled.drops import least_drop, sub_books
>>> from nearsettled.puzzles import Book
>>> from nearsettled.tables import Table
>>> unlike, one_at_least, not_both = Table(2, 2, [(0, 1), (1, 0)]), Table(2, 2, [(0, 1), (1, 0), (1, 1)]), Table(2, 2, [(0, 0), (0, 1), (1, 0)])
>>> book = Book(2, [unlike, one_at_least, not_both])
>>> [[numbers for numbers, fold in sub_books(book)[0]], len(least_drop(book)[0])]
[[[1], [2]], 2]

>>> from nearsettled.desks import Desk
>>> from nearsettled.puzzles import Book
>>> from nearsettled.tables import Table
>>> desk = Desk(Book(2, [Table(2, 2, [(0, 0), (0, 1), (1, 1)]), Table.only(2, 0)]), 2)
>>> first, second = desk.put(0, (0, 1)), desk.put(1, (1,))
>>> [first, second, desk.kept(0), desk.changed, desk.tried([(1, (0,))]), desk.paper()]
[0, 1, (0,), ([(0, 1), (1, 1)], []), [(0,), (0,)], ('no', [(0,), (0,)])]

>>> from nearsettled.desks import Desk
>>> from nearsettled.puzzles import Book
>>> from nearsettled.tables import Table
>>> desk = Desk(Book(2, [Table.only(2, 0)]), 1)
>>> desk.put(0, (1,))
raises BadUse(number=0)

>>> from nearsettled.puzzles import Book, Puzzle
>>> from nearsettled.tables import Table
>>> from nearsettled.texts import show_book, show_puzzle
>>> book = Book(2, [Table.only(2, 1)])
>>> [show_book(book).split('\n'), show_puzzle(Puzzle(book, 2, [(0, (1,))])).split('\n')]
[['book width 2 tables 1', 'table arity 1 rows 1', '1'], ['puzzle places 2 rows 1', 'row 0 at 1']]

>>> from nearsettled.puzzles import Book
>>> from nearsettled.tables import Table
>>> from nearsettled.texts import read_puzzle
>>> read_puzzle('puzzle places 1 rows 1\nrow 0 at 1', Book(2, [Table.only(2, 1)]))
raises BadText(line=2)
"""


def outcome(lines):
    """What the last of the lines gives, or the error that it raises, as the document writes it."""
    names = {}
    for line in lines[:-1]:
        exec(line, names)
    try:
        return repr(eval(lines[-1], names))
    except ValueError as error:
        arguments = ", ".join(f"{name}={value!r}" for name, value in vars(error).items())
        return f"raises {type(error).__name__}({arguments})"


class ExamplesTest(unittest.TestCase):
    def test_examples(self):
        for example in EXAMPLES.strip().split("\n\n"):
            *lines, told = example.split("\n")
            with self.subTest(example):
                self.assertEqual(outcome([re.sub(r"^>>> ", "", line) for line in lines]), told)

    def test_their_number(self):
        self.assertEqual(len(EXAMPLES.strip().split("\n\n")), 16)

    @unittest.skipUnless(os.path.exists(DOCUMENT), "the document is not at hand")
    def test_they_stand_so_in_the_document(self):
        with open(DOCUMENT, encoding="utf-8") as document:
            text = document.read()
        for example in EXAMPLES.strip().split("\n\n"):
            self.assertIn("\n" + example + "\n", text)


if __name__ == "__main__":
    unittest.main()
