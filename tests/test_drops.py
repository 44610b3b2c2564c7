"""Points 2, 3, 18 and 21 for nearsettled.drops."""

import itertools
import random
import unittest

from nearsettled.drops import least_drop, shows_drop, shows_sub_books, sub_books
from nearsettled.folds import Fold, folded, shows_fold, shows_fooled
from nearsettled.puzzles import Book
from nearsettled.tables import Table
from tests.far_looks import all_lists, plain_drop, plain_sub_books, settled_lists
from tests.helpers import ODD, otherwise, spoil
from tests.samples import AT_MOST, COLOURS, EMPTY, EVEN, known_books, NEXT, ONES, small_book, SUM, UNLIKE, UP

ONE_AT_LEAST = Table(2, 2, [(0, 1), (1, 0), (1, 1)])
NOT_BOTH = Table(2, 2, [(0, 0), (0, 1), (1, 0)])
NOT_ALL = Table(2, 3, [row for row in itertools.product((0, 1), repeat=3) if len(set(row)) > 1])


def some_books(seed, many, most=6, width=None):
    """Books of up to so many tables, few of which a fold keeps together."""
    source = random.Random(seed)
    return [small_book(source, width or source.choice((1, 2, 2, 2, 3)), most) for _ in range(many)]


class SubBooksTest(unittest.TestCase):
    def check(self, book):
        told = sub_books(book)
        self.assertEqual([type(part) for part in (told, *told)], [tuple, list, list])
        settled = settled_lists(book)
        greatest = [numbers for numbers in settled
                    if not any(set(numbers) < set(other) for other in settled)]
        self.assertEqual([numbers for numbers, _ in told[0]], sorted(greatest))
        for numbers, fold in told[0]:
            rest = [number for number in range(len(book)) if number not in numbers]
            self.assertTrue(shows_fold(book.without(rest), fold))
        for paper in told[1]:
            self.assertTrue(shows_fooled(book, paper))
        self.assertTrue(plain_sub_books(book, told))
        self.assertIs(shows_sub_books(book, told), True)
        return told

    def test_against_a_trial_of_all_lists(self):
        counts = set()
        for book in some_books(1, 60):
            counts.add(len(self.check(book)[0]))
        self.assertGreater(len(counts), 3)

    def test_known_books(self):
        for _, book in known_books()[::2]:
            self.check(book)

    def test_by_hand(self):
        parts, papers = self.check(Book(2, [UNLIKE, ONE_AT_LEAST, NOT_BOTH]))
        self.assertEqual([numbers for numbers, _ in parts], [[1], [2]])
        parts, papers = self.check(Book(2, [Table.only(2, 0), EVEN, Table.only(2, 1), AT_MOST]))
        self.assertEqual([numbers for numbers, _ in parts], [[0, 1, 3], [0, 2, 3]])
        self.assertGreater(len(papers), 0)

    def test_edges(self):
        for width in (1, 2, 3):
            parts, papers = self.check(Book(width, []))
            self.assertEqual(([numbers for numbers, _ in parts], papers), ([[]], []))
        self.assertEqual([numbers for numbers, _ in self.check(Book(2, [UNLIKE]))[0]], [[]])
        self.assertEqual([numbers for numbers, _ in self.check(Book(2, [UNLIKE, EMPTY]))[0]], [[1]])
        self.assertEqual([numbers for numbers, _ in self.check(Book(2, [UNLIKE, UNLIKE]))[0]], [[]])
        self.assertEqual([numbers for numbers, _ in self.check(Book(2, [AT_MOST, AT_MOST]))[0]], [[0, 1]])

    def test_the_same_question_has_the_same_answer(self):
        for book in some_books(2, 20):
            again = Book(book.width, book.tables)
            self.assertEqual(sub_books(book), sub_books(again))
            self.assertEqual(least_drop(book), least_drop(again))

    def test_lists_told_can_be_changed(self):
        book = Book(2, [UNLIKE, ONE_AT_LEAST, NOT_BOTH])
        for function in (sub_books, least_drop):
            told, same = function(book), function(book)
            spoil(told)
            self.assertNotEqual(told, same)
            self.assertEqual(function(book), same)


class LeastDropTest(unittest.TestCase):
    def check(self, book):
        told = least_drop(book)
        self.assertEqual([type(part) for part in (told, *told)], [tuple, list, Fold, list])
        most = max(len(numbers) for numbers in settled_lists(book))
        self.assertEqual(len(told[0]), len(book) - most)
        self.assertEqual(told[0], sorted(set(told[0])))
        self.assertTrue(shows_fold(book.without(told[0]), told[1]))
        self.assertTrue(plain_drop(book, told))
        self.assertIs(shows_drop(book, told), True)
        return told

    def test_against_a_trial_of_all_lists(self):
        counts = set()
        for book in some_books(3, 60, 8):
            counts.add(len(self.check(book)[0]))
        self.assertGreater(len(counts), 3)

    def test_known_books(self):
        for _, book in known_books()[1::2]:
            self.check(book)

    def test_eight_tables_of_which_four_must_go(self):
        zero, one = Table.only(2, 0), Table.only(2, 1)
        # No fold keeps what asks for unlike values, and none keeps sums together with the value 1.
        book = Book(2, [zero, UNLIKE, one, NOT_ALL, EVEN, UNLIKE, AT_MOST, UNLIKE])
        self.assertEqual(len(self.check(book)[0]), 5)
        book = Book(2, [zero, UNLIKE, one, NOT_ALL, EVEN, UNLIKE, AT_MOST, Table.full(2, 3)])
        told = self.check(book)
        self.assertEqual(len(told[0]), 4)
        self.assertEqual(len(self.check(Book(3, [SUM, NEXT, UP, COLOURS, *ONES, Table.full(3, 2)]))[0]), 3)
        self.assertEqual(len(self.check(Book(3, [SUM, NEXT, UP, COLOURS, *ONES, NEXT]))[0]), 4)
        for value in (told[0][1:], told[0] + [told[0][-1]], told[0][::-1], [*told[0], 0]):
            self.assertIs(shows_drop(book, (value, *told[1:])), False)

    def test_twelve_tables(self):
        source = random.Random(4)
        for _ in range(10):
            book = Book(2, [table for _ in range(12) for table in small_book(source, 2, 1).tables])
            self.check(book)
        book = Book(3, [UP, NEXT, COLOURS, SUM] * 3)
        self.assertTrue(shows_drop(book, least_drop(book)))

    def test_edges(self):
        for width in (1, 2, 3):
            self.assertEqual(least_drop(Book(width, []))[::2], ([], []))
        self.assertEqual(self.check(Book(2, [AT_MOST, EMPTY]))[::2], ([], []))
        self.assertEqual(self.check(Book(2, [UNLIKE]))[0], [0])
        self.assertEqual(self.check(Book(2, [UNLIKE, UNLIKE]))[0], [0, 1])
        self.assertEqual(len(self.check(Book(2, [Table.only(2, 0), Table.only(2, 1), EVEN]))[0]), 1)


class ShowsTest(unittest.TestCase):
    def check(self, book, value):
        found = shows_sub_books(book, value), shows_drop(book, value)
        self.assertEqual(found, (plain_sub_books(book, value), plain_drop(book, value)), value)
        self.assertEqual({type(one) for one in found}, {bool})
        return found

    def test_values_with_one_part_otherwise(self):
        counts = [0, 0]
        for book in some_books(5, 40, 3, 2) + [Book(2, [UNLIKE, ONE_AT_LEAST, NOT_BOTH]), Book(1, []), Book(2, [])]:
            for value in (sub_books(book), least_drop(book)):
                for at, other in enumerate(otherwise(value)):
                    if at % 5 == 0 or len(repr(value)) < 250:
                        covers, drops = self.check(book, other)
                        counts[0] += covers
                        counts[1] += drops
        self.assertGreater(min(counts), 100)

    def test_any_parts(self):
        book = Book(2, [UNLIKE, ONE_AT_LEAST, NOT_BOTH])
        parts, papers = sub_books(book)
        more = [([], parts[0][1]), *parts, parts[0]]
        self.assertTrue(shows_sub_books(book=book, value=(more, papers + papers)))
        for at in range(len(papers)):
            self.check(book, (parts, papers[:at] + papers[at + 1:]))
        for at in range(len(parts)):
            self.check(book, (parts[:at] + parts[at + 1:], papers))
            self.assertFalse(shows_sub_books(book, (parts[:at] + parts[at + 1:], papers)))
        self.assertFalse(shows_sub_books(book, ([], papers)))
        self.assertFalse(shows_sub_books(book, (parts, [])))
        self.assertFalse(shows_sub_books(book, ([([0], parts[0][1]), *parts], papers)))

    def test_other_drops(self):
        for book in some_books(6, 20, 4, 2):
            numbers, fold, papers = least_drop(book)
            for some in all_lists(len(book)):
                self.check(book, (some, fold, papers))
                told = folded(book.without(some))
                if told[0] == "yes":
                    found = self.check(book, (some, told[1], papers))[1]
                    self.assertEqual(found, len(some) == len(numbers))
                    # Without papers nothing shows that fewer tables would not do.
                    self.assertEqual(shows_drop(book, (some, told[1], [])), some == [])
                    self.assertTrue(shows_sub_books(book, ([(sorted(set(range(len(book))) - set(some)), told[1])], []))
                                    == (some == []))

    def test_papers_over_a_part_alone(self):
        book = Book(2, [UNLIKE, ONE_AT_LEAST, NOT_BOTH])
        numbers, fold, _ = least_drop(book)
        paper = folded(book.without([1, 2]))[1:]
        self.assertFalse(shows_drop(book, (numbers, fold, [paper])))
        self.check(book, (numbers, fold, [paper]))

    def test_of_any_value(self):
        for book in (Book(2, [UNLIKE]), Book(3, []), Book(1, [])):
            for value in [*otherwise(([], [])), *otherwise(([], Fold(2, [0, 0, 0]), []))]:
                self.check(book, value)
            for value in ODD:
                self.check(book, (value, []))
                self.check(book, ([], value))
                self.check(book, ([value], []))
                self.check(book, ([([], value)], []))
                self.check(book, ([], Fold(2, [0, 0, 0]), value))
        self.assertTrue(shows_drop(value=([], Fold(2, [0, 0, 0]), []), book=Book(2, [])))

    def test_lists_handed_in_stay_as_they_are(self):
        book = Book(2, [UNLIKE, ONE_AT_LEAST, NOT_BOTH])
        told, drop = sub_books(book), least_drop(book)
        self.assertTrue(shows_sub_books(book, told) and shows_drop(book, drop))
        self.assertEqual((told, drop), (sub_books(book), least_drop(book)))


if __name__ == "__main__":
    unittest.main()
