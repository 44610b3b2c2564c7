"""Points 3, 5, 21, 22 and 23 for the books and puzzles of nearsettled.puzzles."""

import itertools
import random
import unittest

from nearsettled.errors import (BadOrder, BadPlaces, BadTable, BadUse, BadWidth, NearError, NoList, NoNumber, Unlike)
from nearsettled.operations import Operation
from nearsettled.puzzles import Book, Puzzle
from nearsettled.tables import Table
from tests.helpers import ODD, odd_but, raised
from tests.samples import AT_MOST, COLOURS, UNLIKE, some_book, some_puzzle

NO_LISTS = [value for value in ODD if not isinstance(value, list)]
NOT_TABLES = [*ODD, Operation(2, 2, [0] * 4), Table, object(), [UNLIKE], (UNLIKE,), UNLIKE.rows]


class BookTest(unittest.TestCase):
    def test_width_tables_and_length(self):
        book = Book(2, [UNLIKE, AT_MOST, UNLIKE])
        self.assertEqual((book.width, len(book)), (2, 3))
        self.assertEqual(book.tables, [UNLIKE, AT_MOST, UNLIKE])
        self.assertIs(type(book.tables), list)
        self.assertEqual([book[number] for number in range(3)], [UNLIKE, AT_MOST, UNLIKE])

    def test_without_tables(self):
        for width in (1, 2, 3):
            book = Book(width, [])
            self.assertEqual((book.width, len(book), book.tables), (width, 0, []))
            self.assertEqual(raised(lambda: book[0]), (NoNumber, {"number": 0}))

    def test_twelve_tables_and_more(self):
        tables = [Table(3, arity, [(1,) * arity]) for arity in (1, 2, 3)] * 5
        for many in (12, 15):
            book = Book(3, tables[:many])
            self.assertEqual((len(book), book[many - 1]), (many, tables[many - 1]))

    def test_arguments_by_name(self):
        self.assertEqual(Book(tables=[UNLIKE], width=2), Book(2, [UNLIKE]))
        self.assertEqual(Puzzle(rows=[(0, (0, 0))], places=1, book=Book(2, [UNLIKE])).rows, [(0, (0, 0))])
        self.assertEqual(Book(2, []).added(table=UNLIKE), Book(2, [UNLIKE]))
        self.assertEqual(Book(2, [UNLIKE]).without(numbers=[0]), Book(2, []))
        self.assertEqual(Book(2, []).renamed(order=[1, 0]), Book(2, []))
        puzzle = Puzzle(Book(2, [UNLIKE]), 2, [])
        self.assertEqual(puzzle.added(spots=(0, 1), table=0).rows, [(0, (0, 1))])
        self.assertEqual(puzzle.part(numbers=[]), puzzle)

    def test_bad_width(self):
        for width in odd_but(1, 2, 3):
            with self.subTest(width=width):
                self.assertEqual(raised(Book, width, []), (BadWidth, {}))

    def test_no_list(self):
        for tables in [*NO_LISTS, UNLIKE, (UNLIKE,)]:
            with self.subTest(tables=tables):
                self.assertEqual(raised(Book, 2, tables), (NoList, {}))

    def test_bad_table(self):
        for table in [*NOT_TABLES, COLOURS, Table(1, 2, []), Book(2, [])]:
            with self.subTest(table=table):
                self.assertEqual(raised(Book, 2, [UNLIKE, AT_MOST, table, UNLIKE, None]), (BadTable, {"number": 2}))

    def test_which_error_comes_first(self):
        self.assertEqual(raised(Book, 4, ()), (BadWidth, {}))
        self.assertEqual(raised(Book, True, [None]), (BadWidth, {}))
        self.assertEqual(raised(Book, 2, (None,)), (NoList, {}))
        self.assertEqual(raised(Book, 3, [COLOURS, UNLIKE, None]), (BadTable, {"number": 1}))

    def test_no_number(self):
        book = Book(2, [UNLIKE, AT_MOST])
        for number in [*odd_but(0, 1), True, False, 2, -1, (0,), [0], "0"]:
            with self.subTest(number=number):
                self.assertEqual(raised(lambda: book[number]), (NoNumber, {"number": number}))
                found = raised(lambda: book[number])[1]["number"]
                self.assertIs(type(found), type(number))

    def test_equality(self):
        book = Book(2, [UNLIKE, AT_MOST])
        self.assertTrue(book == Book(2, [Table(2, 2, [(1, 0), (0, 1)]), AT_MOST]))
        self.assertFalse(book != Book(2, [UNLIKE, AT_MOST]))
        for other in (Book(2, [AT_MOST, UNLIKE]), Book(2, [UNLIKE]), Book(2, [UNLIKE, AT_MOST, AT_MOST]), Book(2, [])):
            self.assertFalse(book == other)
            self.assertTrue(book != other)
        self.assertFalse(Book(2, []) == Book(3, []))

    def test_any_other_object_is_unequal(self):
        book = Book(2, [UNLIKE])
        for value in [*ODD, UNLIKE, [UNLIKE], Puzzle(book, 0, []), object(), Book, book.tables]:
            with self.subTest(value=value):
                self.assertIs(book == value, False)
                self.assertIs(value != book, True)


class BookMadeOfOthersTest(unittest.TestCase):
    def test_added(self):
        book = Book(2, [UNLIKE])
        self.assertEqual(book.added(AT_MOST).tables, [UNLIKE, AT_MOST])
        self.assertEqual(Book(3, []).added(COLOURS).tables, [COLOURS])
        self.assertEqual(book.tables, [UNLIKE])

    def test_added_unlike(self):
        for table in [*NOT_TABLES, COLOURS, Table(1, 2, []), Book(2, [])]:
            with self.subTest(table=table):
                self.assertEqual(raised(Book(2, [UNLIKE]).added, table), (Unlike, {}))

    def test_given(self):
        for width in (1, 2, 3):
            first = Table.full(width, 3)
            given = Book(width, [first]).given()
            self.assertEqual(given.tables, [first] + [Table.only(width, value) for value in range(width)])
            self.assertEqual(len(Book(width, []).given()), width)

    def test_without(self):
        tables = [Table(2, 1, []), UNLIKE, AT_MOST, Table.full(2, 1), Table.equal(2)]
        book = Book(2, tables)
        for many in range(6):
            for numbers in itertools.permutations(range(5), many):
                rest = [table for number, table in enumerate(tables) if number not in numbers]
                self.assertEqual(book.without(list(numbers)).tables, rest)
        self.assertEqual(book.without([3, 0, 3, 3]).tables, [UNLIKE, AT_MOST, Table.equal(2)])
        self.assertEqual(book.tables, tables)
        self.assertEqual(Book(3, []).without([]), Book(3, []))

    def test_without_errors(self):
        book = Book(2, [UNLIKE, AT_MOST])
        for numbers in NO_LISTS:
            with self.subTest(numbers=numbers):
                self.assertEqual(raised(book.without, numbers), (NoList, {}))
        for number in odd_but(0, 1):
            with self.subTest(number=number):
                self.assertEqual(raised(book.without, [1, 0, number, 7]), (NoNumber, {"number": number}))
        self.assertEqual(raised(book.without, [2, -1]), (NoNumber, {"number": 2}))
        self.assertEqual(raised(Book(2, []).without, [0]), (NoNumber, {"number": 0}))

    def test_renamed(self):
        source = random.Random(5)
        for width in (1, 2, 3):
            for order in itertools.permutations(range(width)):
                book = some_book(source, width)
                renamed = book.renamed(list(order))
                self.assertEqual((renamed.width, renamed.tables), (width, [t.renamed(list(order)) for t in book.tables]))

    def test_renamed_bad_order(self):
        for book in (Book(2, []), Book(2, [UNLIKE])):
            for order in [*odd_but([0, 1]), [1], (0, 1), [0, 0], [1, 2], [0, 1, 2], [0, True], [False, 1]]:
                with self.subTest(order=order):
                    self.assertEqual(raised(book.renamed, order), (BadOrder, {}))


class PuzzleTest(unittest.TestCase):
    def setUp(self):
        self.book = Book(2, [UNLIKE, Table.only(2, 1), Table.full(2, 3)])

    def test_attributes_rows_and_length(self):
        rows = [(2, (0, 1, 0)), (0, (1, 0)), (1, (2,)), (0, (2, 2)), (0, (1, 0))]
        puzzle = Puzzle(self.book, 3, rows)
        self.assertEqual((puzzle.book, puzzle.places, puzzle.rows, len(puzzle)), (self.book, 3, rows, 5))
        self.assertIs(type(puzzle.rows), list)

    def test_book_and_places_stay(self):
        puzzle = Puzzle(self.book, 3, [(0, (0, 1))])
        for made in (puzzle, puzzle.added(1, (2,)), puzzle.part([]), puzzle.part([0])):
            self.assertIs(made.book, self.book)
            self.assertEqual(made.places, 3)
            for name in ("book", "places", "rows"):
                with self.assertRaises(AttributeError):
                    setattr(made, name, Book(3, []))
            self.assertIs(made.book, self.book)
            self.assertEqual(made.places, 3)

    def test_without_places_and_without_rows(self):
        for places in (0, 1, 59, 60):
            for book in (self.book, Book(3, [])):
                puzzle = Puzzle(book, places, [])
                self.assertEqual((puzzle.places, puzzle.rows, len(puzzle)), (places, [], 0))
        self.assertEqual(raised(Puzzle, self.book, 0, [(1, (0,))]), (BadUse, {"number": 0}))
        self.assertEqual(raised(Puzzle, Book(2, []), 3, [(0, (0,))]), (BadUse, {"number": 0}))

    def test_sixty_places_and_many_rows(self):
        rows = [(number % 2, ((number % 60, 59), (number % 60,))[number % 2]) for number in range(1500)]
        puzzle = Puzzle(self.book, 60, rows)
        self.assertEqual((len(puzzle), puzzle.rows), (1500, rows))
        self.assertEqual(len(puzzle.added(1, (59,))), 1501)

    def test_bad_places(self):
        for places in [*odd_but(0, 1, 2, 3, 4), 61, 1000, True, False]:
            with self.subTest(places=places):
                self.assertEqual(raised(Puzzle, self.book, places, []), (BadPlaces, {}))

    def test_no_list(self):
        for rows in NO_LISTS:
            with self.subTest(rows=rows):
                self.assertEqual(raised(Puzzle, self.book, 3, rows), (NoList, {}))

    def wrong_rows(self):
        return [*ODD, (3, (0,)), (-1, (0,)), (True, (0,)), (False, (0, 0)), ("0", (0, 0)), (None, (0,)), ((0,), (0, 0)),
                (0, (0,)), (0, (0, 0, 0)), (0, ()), (0, [0, 0]), (0, (0, 3)), (0, (-1, 0)), (0, (0, True)),
                (0, (False, 1)), (0, (0, None)), (0, ("0", 1)), (0, 0), (0, None), (0,), (0, (0, 0), 0), [0, (0, 0)],
                ((0, 0), 0), (1, ((0,),)), (1, 0), (2, (0, 0)), (0, 0, 0), ([0], (0, 0))]

    def test_bad_use(self):
        good = [(0, (0, 1)), (1, (2,))]
        for row in self.wrong_rows():
            with self.subTest(row=row):
                self.assertEqual(raised(Puzzle, self.book, 3, [*good, row, None]), (BadUse, {"number": 2}))

    def test_which_error_comes_first(self):
        self.assertEqual(raised(Puzzle, self.book, 61, None), (BadPlaces, {}))
        self.assertEqual(raised(Puzzle, self.book, False, [None]), (BadPlaces, {}))
        self.assertEqual(raised(Puzzle, self.book, 1, ((9, (9,)),)), (NoList, {}))
        self.assertEqual(raised(Puzzle, self.book, 1, [(1, (0,)), (1, (1,)), (9, (0,))]), (BadUse, {"number": 1}))

    def test_equality(self):
        rows = [(0, (0, 1)), (1, (1,))]
        puzzle = Puzzle(self.book, 2, rows)
        self.assertTrue(puzzle == Puzzle(Book(2, self.book.tables), 2, list(rows)))
        self.assertFalse(puzzle != Puzzle(self.book, 2, rows))
        for other in (Puzzle(self.book, 3, rows), Puzzle(self.book, 2, rows[::-1]), Puzzle(self.book, 2, rows[:1]),
                      Puzzle(self.book.added(UNLIKE), 2, rows), Puzzle(self.book, 2, rows + rows[:1])):
            self.assertFalse(puzzle == other)
            self.assertTrue(puzzle != other)
        self.assertFalse(Puzzle(Book(2, []), 1, []) == Puzzle(Book(3, []), 1, []))

    def test_any_other_object_is_unequal(self):
        puzzle = Puzzle(self.book, 2, [(0, (0, 1))])
        for value in [*ODD, self.book, puzzle.rows, object(), Puzzle, UNLIKE]:
            with self.subTest(value=value):
                self.assertIs(puzzle == value, False)
                self.assertIs(value != puzzle, True)

    def test_added(self):
        puzzle = Puzzle(self.book, 3, [(1, (2,))])
        more = puzzle.added(0, (2, 2)).added(2, (0, 1, 0)).added(1, (2,))
        self.assertEqual(more.rows, [(1, (2,)), (0, (2, 2)), (2, (0, 1, 0)), (1, (2,))])
        self.assertEqual((more.book, more.places, puzzle.rows), (self.book, 3, [(1, (2,))]))
        self.assertEqual(more, Puzzle(self.book, 3, more.rows))

    def test_added_bad_use(self):
        puzzle = Puzzle(self.book, 3, [(1, (2,))] * 4)
        for row in [row for row in self.wrong_rows() if isinstance(row, tuple) and len(row) == 2]:
            with self.subTest(row=row):
                self.assertEqual(raised(puzzle.added, *row), (BadUse, {"number": 4}))
        for value in odd_but(1):
            self.assertEqual(raised(puzzle.added, value, (0,)), (BadUse, {"number": 4}))
        for value in odd_but((0,)):
            self.assertEqual(raised(puzzle.added, 1, value), (BadUse, {"number": 4}))
            self.assertEqual(raised(puzzle.added, value, value), (BadUse, {"number": 4}))

    def test_part(self):
        rows = [(0, (0, 1)), (1, (0,)), (0, (1, 2)), (1, (0,))]
        puzzle = Puzzle(self.book, 3, rows)
        for many in range(5):
            for numbers in itertools.permutations(range(4), many):
                part = puzzle.part(list(numbers))
                self.assertEqual(part, Puzzle(self.book, 3, [rows[number] for number in sorted(numbers)]))
                self.assertEqual(puzzle.part([*numbers, *numbers[:1]]), part)
        self.assertEqual(puzzle.rows, rows)

    def test_part_errors(self):
        puzzle = Puzzle(self.book, 3, [(1, (2,))] * 2)
        for numbers in NO_LISTS:
            with self.subTest(numbers=numbers):
                self.assertEqual(raised(puzzle.part, numbers), (NoList, {}))
        for number in odd_but(0, 1):
            with self.subTest(number=number):
                self.assertEqual(raised(puzzle.part, [1, 0, number, 7]), (NoNumber, {"number": number}))


class CopiesTest(unittest.TestCase):
    def test_lists_handed_in_can_be_changed(self):
        tables, rows, numbers, order = [UNLIKE, AT_MOST], [(0, (0, 1)), (1, (1, 0))], [1], [1, 0]
        book = Book(2, tables)
        puzzle = Puzzle(book, 2, rows)
        part, without, renamed = puzzle.part(numbers), book.without(numbers), book.renamed(order)
        for some in (tables, rows, numbers, order):
            some.reverse()
            some.append(None)
        self.assertEqual(book.tables, [UNLIKE, AT_MOST])
        self.assertEqual(puzzle.rows, [(0, (0, 1)), (1, (1, 0))])
        self.assertEqual((part.rows, without.tables), ([(1, (1, 0))], [UNLIKE]))
        self.assertEqual(renamed.tables, [UNLIKE, AT_MOST.renamed([1, 0])])

    def test_lists_handed_in_stay_as_they_are(self):
        tables, rows, numbers = [UNLIKE, AT_MOST], [(1, (0, 1)), (0, (1, 0))], [1, 0, 1]
        Puzzle(Book(2, tables), 2, rows).part(numbers)
        Book(2, tables).without(numbers)
        self.assertEqual((tables, rows), ([UNLIKE, AT_MOST], [(1, (0, 1)), (0, (1, 0))]))
        self.assertEqual(numbers, [1, 0, 1])

    def test_lists_told_can_be_changed(self):
        book = Book(2, [UNLIKE])
        puzzle = Puzzle(book, 2, [(0, (0, 1))])
        for made in (puzzle, puzzle.part([0]), Puzzle(book, 2, []).added(0, (0, 1))):
            made.rows.append(None)
            made.book.tables.clear()
            self.assertEqual((made.rows, made.book.tables), ([(0, (0, 1))], [UNLIKE]))
            self.assertIsNot(made.rows, made.rows)
        book.tables.append(AT_MOST)
        self.assertEqual((book.tables, len(book)), ([UNLIKE], 1))

    def test_made_of_others_and_changed(self):
        book = Book(2, [UNLIKE])
        puzzle = Puzzle(book, 2, [(0, (0, 1))])
        for made in (book.added(AT_MOST), book.given(), book.without([]), book.renamed([0, 1])):
            made.tables.clear()
        puzzle.part([0]).rows.clear()
        puzzle.added(0, (1, 1)).rows.clear()
        self.assertEqual((book, puzzle), (Book(2, [UNLIKE]), Puzzle(book, 2, [(0, (0, 1))])))

    def test_errors_change_nothing(self):
        book = Book(2, [UNLIKE])
        puzzle = Puzzle(book, 2, [(0, (0, 1))])
        for call in (lambda: book[1], lambda: book.added(COLOURS), lambda: book.without([0, 1]),
                     lambda: book.renamed([0, 0]), lambda: puzzle.added(0, (0, 2)), lambda: puzzle.part([0, 1])):
            self.assertRaises(NearError, call)
        self.assertEqual((book, puzzle), (Book(2, [UNLIKE]), Puzzle(book, 2, [(0, (0, 1))])))

    def test_puzzles_of_all_shapes_are_made_again_from_what_they_tell(self):
        source = random.Random(8)
        for _ in range(200):
            puzzle = some_puzzle(source)
            book = Book(puzzle.book.width, [Table(t.width, t.arity, t.rows) for t in puzzle.book.tables])
            self.assertEqual(Puzzle(book, puzzle.places, puzzle.rows), puzzle)


if __name__ == "__main__":
    unittest.main()
