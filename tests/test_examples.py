"""The examples of the interface, word for word."""

import os
import re
import unittest

DOCUMENT = os.path.join(os.path.dirname(__file__), "..", "..", "shared", "DOC.md")

EXAMPLES = r"""
>>> from nearsettled.tables import Table
>>> unlike = Table(2, 2, [(1, 0), (0, 1)])
>>> [unlike.rows, (0, 0) in unlike, (unlike * Table.only(2, 1)).rows, unlike.seen((1, 1)).rows, unlike.glued(0, 1).rows]
[[(0, 1), (1, 0)], False, [(0, 1, 1), (1, 0, 1)], [(0, 0), (1, 1)], []]

>>> from nearsettled.tables import Table
>>> Table(2, 2, [(0, 1), (0, 2)])
raises BadRow(number=1)

>>> from nearsettled.operations import Operation, breaks
>>> from nearsettled.tables import Table
>>> least = Operation(2, 2, [0, 0, 0, 1])
>>> [least((1, 0)), breaks(least, Table(2, 2, [(0, 0), (0, 1), (1, 1)])), least.agrees(), Operation.taking(2, 3, 1)((0, 1, 0))]
[0, None, False, 1]

>>> from nearsettled.puzzles import answers, Book, first_broken, Puzzle, shows_none, solved
>>> from nearsettled.tables import Table
>>> book = Book(2, [Table(2, 2, [(0, 1), (1, 0)])])
>>> ring = Puzzle(book, 3, [(0, (0, 1)), (0, (1, 2)), (0, (2, 0))])
>>> tree = ('split', 0, [('broken', 0), ('broken', 0)])
>>> [list(answers(ring.part([0, 1]))), first_broken(ring, (0, 1, 0)), solved(ring)[0], shows_none(Puzzle(book, 1, [(0, (0, 0))]), (), tree)]
[[(0, 1, 0), (1, 0, 1)], 2, 'no', True]

>>> from nearsettled.leans import lean
>>> from nearsettled.puzzles import Book, Puzzle
>>> from nearsettled.tables import Table
>>> lean(Puzzle(Book(2, [Table(2, 2, [(0, 1), (1, 0)])]), 2, [(0, (0, 1)), (0, (0, 0))]))[0]
[1]

>>> from nearsettled.leans import lean
>>> from nearsettled.puzzles import Book, Puzzle
>>> from nearsettled.tables import Table
>>> lean(Puzzle(Book(2, [Table.only(2, 1)]), 1, [(0, (0,))]))
raises HasAnswer(answer=(1,))

>>> from nearsettled.places import emptied, kept_values
>>> from nearsettled.puzzles import Book, Puzzle
>>> from nearsettled.tables import Table
>>> book = Book(2, [Table(2, 2, [(0, 0), (0, 1), (1, 1)]), Table.only(2, 0), Table(2, 2, [(0, 1), (1, 0)])])
>>> puzzle = Puzzle(book, 2, [(0, (0, 1)), (1, (1,))])
>>> [kept_values(puzzle), kept_values(puzzle.part([0]), choice=((0, 1),)), emptied(Puzzle(book, 1, [(2, (0, 0))]))]
[[(0,), (0,)], [(1,), (1,)], ('no', [(0, 1)])]
"""


def outcome(lines):
    """What the last of the lines gives, or the error that it raises, as the document writes it."""
    names = {}
    for line in lines[:-1]:
        exec(line, names)
    try:
        return repr(eval(lines[-1], names))
    except ValueError as error:
        arguments = ", ".join(f"{name}={value!r}" for name, value in vars(error).items())
        return f"raises {type(error).__name__}({arguments})"


class ExamplesTest(unittest.TestCase):
    def test_examples(self):
        for example in EXAMPLES.strip().split("\n\n"):
            *lines, told = example.split("\n")
            with self.subTest(example):
                self.assertEqual(outcome([re.sub(r"^>>> ", "", line) for line in lines]), told)

    @unittest.skipUnless(os.path.exists(DOCUMENT), "the document is not at hand")
    def test_they_stand_so_in_the_document(self):
        with open(DOCUMENT, encoding="utf-8") as document:
            text = document.read()
        for example in EXAMPLES.strip().split("\n\n"):
            self.assertIn("\n" + example + "\n", text)


if __name__ == "__main__":
    unittest.main()
