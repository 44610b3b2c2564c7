"""Points 2, 3, 8, 10, 11, 12, 17, 21 and 22 for nearsettled.folds."""

import itertools
import random
import unittest

from nearsettled.errors import (BadArguments, BadCell, BadLength, BadOrder, BadWidth, NoFold, NoList, NoMeet, Unlike)
from nearsettled.folds import (answered, Fold, fold_breaks, folded, folds, set_rows, sets_of, shows_fold, shows_fooled)
from nearsettled.operations import Operation
from nearsettled.puzzles import Book, first_broken, Puzzle, solved
from nearsettled.tables import Table
from tests.far_looks import (all_sets, is_set_row, keeps_plainly, plain_fold, plain_folds, plain_fooled, plain_set_rows)
from tests.helpers import ODD, odd_but, otherwise, raised, spoil
from tests.looks import plain_answers, plain_emptied, plain_kept
from tests.samples import (AT_MOST, AWAY, COLOURS, EMPTY, EVEN, FLAT, known_books, LEAST, NEXT, ONES, ring,
                           small_book, some_book, some_puzzles, SUM, UNLIKE, UP)


def some_books(seed, many, widths=(1, 2, 3)):
    """Books of all shapes, and as many of a few tables with a few rows, which fewer folds keep."""
    source = random.Random(seed)
    return [source.choice((some_book, small_book))(source, source.choice(widths)) for _ in range(many)]


class SetsTest(unittest.TestCase):
    def test_sets_of(self):
        self.assertEqual(sets_of(1), [(0,)])
        self.assertEqual(sets_of(width=2), [(0,), (0, 1), (1,)])
        self.assertEqual(sets_of(3), [(0,), (0, 1), (0, 1, 2), (0, 2), (1,), (1, 2), (2,)])

    def test_bad_width(self):
        for width in odd_but(1, 2, 3):
            with self.subTest(width=width):
                self.assertEqual(raised(sets_of, width), (BadWidth, {}))

    def test_set_rows_against_a_plain_look(self):
        for book in some_books(1, 60):
            for table in book.tables:
                self.assertEqual(set_rows(table), plain_set_rows(table))

    def test_set_rows_by_hand(self):
        self.assertEqual(set_rows(EMPTY), [])
        self.assertEqual(set_rows(Table.only(3, 1)), [((1,),)])
        self.assertEqual(set_rows(Table(2, 2, [(0, 1)])), [((0,), (1,))])
        self.assertEqual(set_rows(table=Table.full(1, 3)), [((0,), (0,), (0,))])
        self.assertEqual(len(set_rows(Table.full(3, 3))), 343)
        self.assertEqual(set_rows(NEXT)[:2], [((0,), (1,)), ((0, 1), (1, 2))])

    def test_lists_told_are_new(self):
        sets_of(2).append(None)
        set_rows(UNLIKE).clear()
        self.assertEqual((len(sets_of(2)), len(set_rows(UNLIKE))), (3, 3))


class FoldTest(unittest.TestCase):
    def test_cells_and_calls(self):
        for width in (1, 2, 3):
            source = random.Random(width)
            for _ in range(30):
                cells = [source.randrange(width) for _ in all_sets(width)]
                fold = Fold(width, cells)
                self.assertEqual((fold.width, fold.cells), (width, cells))
                self.assertEqual([fold(some) for some in all_sets(width)], cells)
        self.assertEqual(Fold(cells=[0, 0, 1], width=2)(some=(0, 1)), 0)
        self.assertEqual(vars(Fold(2, [0, 0, 1]))["width"], 2)

    def test_errors(self):
        for width in odd_but(1, 2, 3):
            self.assertEqual(raised(Fold, width, None), (BadWidth, {}))
        for cells in ODD:
            if not isinstance(cells, list):
                self.assertEqual(raised(Fold, 2, cells), (NoList, {}))
            elif len(cells) != 3:
                self.assertEqual(raised(Fold, 2, cells), (BadLength, {}))
        for cell in odd_but(0, 1):
            self.assertEqual(raised(Fold, 2, [0, cell, 9]), (BadCell, {"number": 1}))
            self.assertEqual(raised(Fold, 2, [cell, 0, None]), (BadCell, {"number": 0}))
            self.assertEqual(raised(Fold, 2, [cell, 0]), (BadLength, {}))
        self.assertEqual(raised(Fold, 3, [0] * 6 + [3]), (BadCell, {"number": 6}))
        self.assertEqual(raised(Fold, 1, [1]), (BadCell, {"number": 0}))

    def test_bad_arguments(self):
        fold = Fold(2, [0, 0, 1])
        wrong = [(), (1, 0), (0, 0), (2,), (0, 2), (True,), (False, 1), [0], [0, 1], ((0,),), (None,), "0"]
        for some in [*odd_but((0,)), *wrong]:
            with self.subTest(some=some):
                self.assertEqual(raised(fold, some), (BadArguments, {}))
        self.assertEqual(raised(Fold(1, [0]), (1,)), (BadArguments, {}))
        self.assertEqual(raised(Fold(1, [0]), (0, 1)), (BadArguments, {}))

    def test_equal(self):
        self.assertEqual(Fold(2, [0, 0, 1]), Fold(2, [0, 0, 1]))
        self.assertNotEqual(Fold(2, [0, 0, 1]), Fold(2, [0, 1, 1]))
        self.assertNotEqual(Fold(1, [0]), Fold(2, [0, 0, 0]))
        for value in [*ODD, [0, 0, 1], Operation(2, 2, [0, 0, 0, 1]), UNLIKE, Fold]:
            self.assertIs(Fold(2, [0, 0, 1]) == value, False)
            self.assertIs(Fold(2, [0, 0, 1]) != value, True)

    def test_renamed(self):
        for width in (1, 2, 3):
            source = random.Random(width)
            for order in itertools.permutations(range(width)):
                fold = Fold(width, [source.randrange(width) for _ in all_sets(width)])
                other = fold.renamed(list(order))
                for some in all_sets(width):
                    self.assertEqual(other(tuple(sorted(order[value] for value in some))), order[fold(some)])
        self.assertEqual(Fold(2, [0, 0, 1]).renamed(order=[1, 0]).cells, [0, 1, 1])
        for order in [*ODD, [0, 0], [1, 2], [0], [0, 1, 2], (0, 1), [0, True], [[0], 1]]:
            if order != [0, 1] or [type(part) for part in order] != [int, int]:
                self.assertEqual(raised(Fold(2, [0, 0, 1]).renamed, order), (BadOrder, {}), order)

    def test_of_meet(self):
        for width in (1, 2, 3):
            for cells in itertools.product(range(width), repeat=width * width):
                told = dict(zip(itertools.product(range(width), repeat=2), cells))
                right = (all(told[x, x] == x for x in range(width)) and all(told[x, y] == told[y, x] for x, y in told)
                         and all(told[told[x, y], z] == told[x, told[y, z]] for x, y in told for z in range(width)))
                made = Operation(width, 2, list(cells))
                if not right:
                    self.assertEqual(raised(Fold.of_meet, made), (NoMeet, {}))
                else:
                    fold = Fold.of_meet(operation=made)
                    for some in all_sets(width):
                        found = {self.meet(told, order) for order in itertools.permutations(some)}
                        self.assertEqual({fold(some)}, found)

    def meet(self, told, values):
        found = values[0]
        for value in values[1:]:
            found = told[found, value]
        return found

    def test_no_meet(self):
        for arity in (1, 3, 4):
            self.assertEqual(raised(Fold.of_meet, Operation.taking(2, arity, 0)), (NoMeet, {}))
            self.assertEqual(raised(Fold.of_meet, Operation.taking(1, arity, 0)), (NoMeet, {}))
        self.assertEqual(raised(Fold.of_meet, Operation.taking(2, 2, 0)), (NoMeet, {}))
        self.assertEqual(Fold.of_meet(Operation.taking(1, 2, 0)), Fold(1, [0]))

    def test_a_meet_that_keeps_a_table_gives_a_fold_that_does(self):
        least, flat = Operation.by(3, 2, min), Operation.by(3, 2, lambda two: two[0] if two[0] == two[1] else 0)
        for table in (UP, LEAST, *ONES):
            self.assertIsNone(fold_breaks(Fold.of_meet(least), table))
        for table in (FLAT, AWAY, *ONES):
            self.assertIsNone(fold_breaks(Fold.of_meet(flat), table))
        self.assertIsNotNone(fold_breaks(Fold.of_meet(least), SUM))

    def test_not_every_fold_comes_from_a_meet(self):
        book = Book(2, [Table(2, 2, [(0, 1), (1, 0), (1, 1)])])
        self.assertEqual([fold.cells for fold in folds(book)], plain_folds(2, book.tables))
        # What a fold gives for the set of one value may be another value.
        self.assertTrue(shows_fold(book, Fold(2, [1, 1, 1])))


class KeepingTest(unittest.TestCase):
    def test_fold_breaks_against_a_plain_look(self):
        source = random.Random(3)
        for book in some_books(3, 80):
            fold = Fold(book.width, [source.randrange(book.width) for _ in all_sets(book.width)])
            for table in book.tables:
                told = fold_breaks(fold, table)
                self.assertEqual(told is None, keeps_plainly(fold, table))
                if told is not None:
                    self.assertTrue(is_set_row(table, told))
                    self.assertNotIn(tuple(fold(some) for some in told), table.rows)

    def test_unlike(self):
        self.assertEqual(raised(fold_breaks, Fold(2, [0, 0, 1]), COLOURS), (Unlike, {}))
        self.assertEqual(raised(fold_breaks, table=UNLIKE, fold=Fold(1, [0])), (Unlike, {}))
        self.assertIsNone(fold_breaks(fold=Fold(2, [0, 0, 1]), table=EMPTY))

    def test_what_is_made_of_kept_tables_is_kept(self):
        many = 0
        for book in some_books(4, 60):
            for fold in itertools.islice(folds(book), 3):
                for table in self.made_of(book):
                    self.assertIsNone(fold_breaks(fold, table))
                    many += 1
        self.assertGreater(many, 1000)

    def made_of(self, book):
        """Tables that are made of the tables of a book."""
        yield Table.equal(book.width)
        for arity in (1, 2, 3):
            yield Table.full(book.width, arity)
        for one, other in itertools.product(book.tables, repeat=2):
            if one.arity == other.arity:
                yield one & other
            if one.arity + other.arity <= 3:
                yield one * other
        for table in book.tables:
            for many in (1, 2, 3):
                for spots in itertools.product(range(table.arity), repeat=many):
                    yield table.seen(spots)
            for one, other in itertools.product(range(table.arity), repeat=2):
                yield table.glued(one, other)

    def test_values_renamed(self):
        for book in some_books(5, 40):
            for order in itertools.permutations(range(book.width)):
                told = sorted(fold.renamed(list(order)).cells for fold in list(folds(book)))
                self.assertEqual(told, [fold.cells for fold in folds(book.renamed(list(order)))])


class FoldedTest(unittest.TestCase):
    def check(self, book):
        """Check what is told of a book, and return the word."""
        told = folded(book)
        found = plain_folds(book.width, book.tables)
        self.assertEqual([fold.cells for fold in folds(book)], found)
        self.assertEqual(told[0], "yes" if found else "no")
        self.assertIs(type(told), tuple)
        if found:
            self.assertEqual(len(told), 2)
            self.assertIn(told[1].cells, found)
            self.assertIs(shows_fold(book, told[1]), True)
            self.assertIs(shows_fooled(book, told[1:]), False)
        else:
            self.assertEqual([type(part) for part in told], [str, Puzzle, list, tuple])
            self.assertTrue(plain_fooled(book, told[1:]))
            self.assertIs(shows_fooled(book, told[1:]), True)
            # The puzzle has no answer, but no place of it is emptied.
            self.assertEqual(solved(told[1])[0], "no")
            self.assertNotIn((), plain_kept(told[1]))
        return told[0]

    def test_against_a_trial_of_all_folds(self):
        words = [self.check(book) for book in some_books(6, 400, (1, 2, 2, 2))]
        self.assertGreater(min(words.count("yes"), words.count("no")), 30)

    def test_three_values(self):
        words = [self.check(book) for book in some_books(7, 12, (3,))]
        self.assertGreater(min(words.count("yes"), words.count("no")), 1)

    def test_known_books(self):
        words = {name: self.check(book) for name, book in known_books()}
        no = ["sum and ones", "next", "next and up", "middle, ones", "colours", "colours and one", "no rows",
              "all and next"]
        self.assertEqual([name for name in words if words[name] == "no"], no)

    def test_two_values(self):
        for tables, word in (([UNLIKE], "no"), ([AT_MOST], "yes"), ([EVEN, Table.only(2, 1)], "no"), ([EVEN], "yes"),
                             ([EVEN, Table.only(2, 0)], "yes"), ([EMPTY], "yes"), ([], "yes"),
                             ([EMPTY, UNLIKE], "no"), ([AT_MOST, Table.only(2, 0), Table.only(2, 1)], "yes")):
            self.assertEqual(self.check(Book(2, tables)), word)

    def test_never_both(self):
        source = random.Random(8)
        for book in some_books(9, 60, (1, 2)):
            told = folded(book)
            if told[0] == "no":
                for cells in itertools.product(range(book.width), repeat=len(all_sets(book.width))):
                    self.assertFalse(shows_fold(book, Fold(book.width, list(cells))))
            else:
                for _ in range(5):
                    other = folded(some_book(source, book.width))
                    self.assertFalse(shows_fooled(book, other[1:]))

    def test_settled_books_have_answers_where_no_place_is_emptied(self):
        many = 0
        for puzzle, _ in some_puzzles(10, 200):
            if folded(puzzle.book)[0] == "yes" and () not in plain_kept(puzzle):
                self.assertNotEqual(plain_answers(puzzle), [])
                many += 1
        self.assertGreater(many, 60)

    def test_many_tables(self):
        source = random.Random(11)
        rows = list(itertools.product(range(3), repeat=3))
        words = []
        for many_rows in (8, 18, 25, 26):
            for _ in range(3):
                book = Book(3, [Table(3, 3, source.sample(rows, many_rows)) for _ in range(12)])
                told = folded(book)
                words.append(told[0])
                right = shows_fold(book, told[1]) if told[0] == "yes" else shows_fooled(book, told[1:])
                self.assertTrue(right)
        self.assertEqual(set(words), {"yes", "no"})

    def test_the_same_question_has_the_same_answer(self):
        for book in some_books(12, 60):
            again = Book(book.width, book.tables)
            self.assertEqual(folded(book), folded(again))

    def test_lists_told_can_be_changed(self):
        book = Book(2, [UNLIKE, EMPTY])
        told = folded(book)
        spoil(told[2:])
        told[1].rows.clear()
        self.assertTrue(plain_fooled(book, folded(book)[1:]))
        self.assertNotEqual(folded(book)[2], told[2])
        fold = folded(Book(2, []))[1]
        fold.cells.clear()
        self.assertEqual(len(fold.cells), 3)

    def test_lists_handed_in_can_be_changed(self):
        cells, order = [0, 0, 1], [1, 0]
        fold = Fold(2, cells)
        other = fold.renamed(order)
        cells[0] = 7
        order.clear()
        self.assertEqual((fold.cells, other.cells), ([0, 0, 1], [0, 1, 1]))


class ShowsTest(unittest.TestCase):
    def check(self, book, value):
        found = shows_fold(book, value), shows_fooled(book, value)
        self.assertEqual(found, (plain_fold(book, value), plain_fooled(book, value)), value)
        self.assertEqual({type(one) for one in found}, {bool})
        return found

    def test_values_with_one_part_otherwise(self):
        counts = [0, 0]
        for book in some_books(13, 40, (1, 2, 2, 3)):
            told = folded(book)
            value = told[1] if told[0] == "yes" else told[1:]
            if len(repr(told)) < 600:
                for other in otherwise(value):
                    fold, fooled = self.check(book, other)
                    counts[0] += fold
                    counts[1] += fooled
        self.assertGreater(min(counts), 20)

    def test_papers_with_more_rows(self):
        book = Book(2, [UNLIKE, AT_MOST])
        puzzle, sets, tree = folded(book)[1:]
        self.assertTrue(shows_fooled(book=book, value=(puzzle, sets, tree)))
        # The tree does not name the new row.
        self.check(book, (puzzle.added(1, (1, 1)), sets, tree))
        self.assertFalse(shows_fooled(book, (puzzle.added(1, (1, 1)), sets, tree)))
        self.check(book, (puzzle, [(0, 1)] * len(sets), tree))

    def test_papers_of_other_books(self):
        papers = [(book, folded(book)) for book in some_books(14, 40, (2,))] * 2
        for (book, told), (other, _) in zip(papers, papers[1:]):
            self.check(other, told[1:] if told[0] == "no" else told[1])

    def test_of_any_value(self):
        for book in (Book(2, [UNLIKE]), Book(3, []), Book(1, [])):
            for value in otherwise(((0, 1), [], None)):
                self.check(book, value)
        self.assertIs(shows_fold(value=Fold(2, [0, 0, 0]), book=Book(3, [])), False)
        self.assertIs(shows_fold(Book(2, []), (Fold(2, [0, 0, 0]),)), False)


class AnsweredTest(unittest.TestCase):
    def test_against_a_plain_look(self):
        words = []
        for puzzle, _ in some_puzzles(15, 250):
            told = folded(puzzle.book)
            if told[0] == "yes":
                word, found = answered(told[1], puzzle)
                words.append(word)
                if word == "yes":
                    self.assertEqual(found, tuple(told[1](some) for some in plain_kept(puzzle)))
                    self.assertIsNone(first_broken(puzzle, found))
                else:
                    self.assertEqual(word, "no")
                    self.assertTrue(plain_emptied(puzzle, found))
                    self.assertEqual(plain_answers(puzzle), [])
        self.assertGreater(min(words.count("yes"), words.count("no")), 20)

    def test_errors(self):
        puzzle = Puzzle(Book(2, [AT_MOST, UNLIKE, EVEN]), 3, [(0, (0, 1))])
        self.assertEqual(raised(answered, Fold(3, [0] * 7), puzzle), (Unlike, {}))
        self.assertEqual(raised(answered, Fold(2, [0, 0, 0]), puzzle), (NoFold, {"number": 1}))
        self.assertEqual(raised(answered, Fold(2, [1, 1, 0]), puzzle), (NoFold, {"number": 0}))
        self.assertEqual(raised(answered, puzzle=ring(3), fold=Fold(2, [0, 0, 1])), (NoFold, {"number": 0}))
        # A table that no row uses counts, too.
        self.assertEqual(raised(answered, Fold(2, [0, 0, 1]), Puzzle(Book(2, [UNLIKE]), 0, [])), (NoFold, {"number": 0}))

    def test_edges(self):
        self.assertEqual(answered(Fold(2, [0, 0, 1]), Puzzle(Book(2, []), 0, [])), ("yes", ()))
        self.assertEqual(answered(Fold(3, [0, 0, 2, 0, 1, 1, 2]), Puzzle(Book(3, []), 2, [])), ("yes", (2, 2)))
        book = Book(2, [EMPTY, AT_MOST])
        self.assertEqual(answered(Fold(2, [0, 1, 1]), Puzzle(book, 2, [(1, (0, 1))])), ("yes", (1, 1)))
        self.assertEqual(answered(Fold(2, [0, 1, 1]), Puzzle(book, 1, [(0, (0, 0))]))[0], "no")

    def test_sixty_places(self):
        book = Book(3, [LEAST, *ONES])
        fold = Fold.of_meet(Operation.by(3, 2, min))
        rows = [(0, (place, place + 1, place + 2)) for place in range(58)]
        self.assertEqual(answered(fold, Puzzle(book, 60, rows + [(2, (59,))])), ("yes", (1,) * 60))
        word, told = answered(fold, Puzzle(book, 60, rows + [(2, (59,)), (1, (20,)), (1, (21,))]))
        self.assertEqual(word, "no")


class FoldsTest(unittest.TestCase):
    def test_counts(self):
        self.assertEqual(len(list(folds(Book(3, [])))), 2187)
        self.assertEqual([fold.cells for fold in folds(book=Book(1, []))], [[0]])
        self.assertEqual(list(folds(Book(2, [UNLIKE]))), [])
        self.assertEqual(next(folds(Book(3, []))), Fold(3, [0] * 7))

    def test_single_values(self):
        # With the tables of single values, a fold gives each single value itself.
        for book in some_books(16, 40, (2, 3)):
            told = [fold for fold in folds(book) if all(fold((value,)) == value for value in range(book.width))]
            self.assertEqual(list(folds(book.given())), told)


if __name__ == "__main__":
    unittest.main()
