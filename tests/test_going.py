"""Points 2, 3, 12, 14, 16, 21 and 22 for nearsettled.going."""

import itertools
import random
import unittest

from nearsettled.agreements import agreed
from nearsettled.choices import kept_choices
from nearsettled.errors import BadChoice, BadNear
from nearsettled.folds import folded, Fold
from nearsettled.going import answers_near, dead_ends, gone_on
from nearsettled.operations import Operation
from nearsettled.places import emptied
from nearsettled.puzzles import answers, Book, first_broken, Puzzle
from nearsettled.tables import Table
from tests.far_looks import all_parts, PlainGoing
from tests.helpers import ODD, odd_but, raised, spoil, WRONG_CHOICES
from tests.looks import all_choices, plain_answers, plain_kept
from tests.samples import (AT_MOST, AWAY, clauses, COLOURS, EMPTY, EVEN, LEAST, ODD_SUM, ONES, ring, small_book,
                           some_puzzles, tangled_puzzles, tight_puzzles, UNLIKE, UP)


def nears(width):
    return (1, 2) if width == 3 else (1, 2, 3)


def puzzles_and_nears(seed, many, **bounds):
    """Puzzles of all shapes, each with each near that its width lets."""
    some = [puzzle for puzzle, _ in some_puzzles(seed, many, **{"most_places": 4, **bounds})]
    for puzzle in some + list(tight_puzzles(seed, many // 2)) + list(tangled_puzzles(seed, many // 6, 4)):
        for near in nears(puzzle.book.width):
            yield puzzle, near


class GoneOnTest(unittest.TestCase):
    def check(self, puzzle, near, plain, choice):
        told = gone_on(puzzle, near, choice)
        right = plain.end(choice)
        self.assertIs(type(told), tuple)
        if right == ("struck",):
            self.assertEqual((told[0], len(told)), ("struck", 2))
            if near == 1:
                self.assertEqual(told[1], choice)
            else:
                self.assertIn(told[1], plain.struck)
                self.assertIn(told[1], all_parts(choice))
                self.assertLessEqual(len(told[1]), near)
        else:
            self.assertEqual(told, right)
        return told[0]

    def test_against_a_plain_going_on(self):
        words = {near: [] for near in (1, 2, 3)}
        for puzzle, near in puzzles_and_nears(1, 80, most_rows=5):
            plain = PlainGoing(puzzle, near)
            for choice in all_choices(puzzle)[::3]:
                words[near].append(self.check(puzzle, near, plain, choice))
        for near, some in words.items():
            self.assertGreater(min(some.count("yes"), some.count("struck")), 90)

    def test_dense_puzzles(self):
        source = random.Random(2)
        words = {near: [] for near in (1, 2, 3)}
        for many in [*range(6, 22)] * 2:
            puzzle = clauses(source, many, 5)
            for near in (1, 2, 3):
                plain = PlainGoing(puzzle, near)
                for choice in source.sample(all_choices(puzzle), 12) + [()]:
                    words[near].append(self.check(puzzle, near, plain, choice))
                self.assertEqual((list(answers_near(puzzle, near)), dead_ends(puzzle, near)), plain.ends())
        self.assertGreater(words[2].count("broken"), 5)
        self.assertGreater(min(words[near].count("stuck") for near in (1, 2)), 5)

    def test_by_hand(self):
        way = Puzzle(Book(2, [UNLIKE]), 3, [(0, (0, 1)), (0, (1, 2))])
        self.assertEqual(gone_on(choice=((0, 1),), near=2, puzzle=way), ("yes", (1, 0, 1)))
        self.assertEqual(gone_on(way, 1, ((2, 0),)), ("yes", (0, 1, 0)))
        self.assertEqual(gone_on(way, 1, ((0, 1), (1, 1))), ("struck", ((0, 1), (1, 1))))
        self.assertEqual(gone_on(way, 3, ((0, 1), (1, 1))), ("struck", ((0, 1), (1, 1))))
        self.assertEqual(gone_on(ring(3), 2, ()), ("struck", ()))
        self.assertEqual(gone_on(ring(3), 1, ()), ("stuck", (), 0))
        self.assertEqual(gone_on(ring(5), 1, ()), ("stuck", (), 0))

    def test_a_row_that_is_broken_though_each_two_places_are_kept(self):
        triple = Puzzle(Book(2, [EVEN, ODD_SUM]), 4, [(0, (1, 2, 3)), (1, (0, 1, 2)), (0, (0, 1, 2))])
        broken = ((0, 1), (1, 0), (2, 0))
        self.assertEqual(gone_on(triple.part([0, 1]), 2, ((0, 0), (1, 0), (2, 0))), ("broken", 1))
        self.assertEqual(gone_on(triple.part([0, 2]), 2, broken), ("broken", 1))
        self.assertEqual(gone_on(triple.part([0, 2]), 3, broken)[0], "struck")
        self.assertEqual(gone_on(triple.part([0, 2]), 1, broken), ("struck", broken))
        self.assertEqual(gone_on(triple.part([0, 2]), 2, ((0, 1), (1, 0))), ("yes", (1, 0, 1, 1)))

    def test_what_is_chosen_may_lie_anywhere(self):
        free = Puzzle(Book(3, [COLOURS]), 5, [(0, (1, 3))])
        for near in (1, 2):
            self.assertEqual(gone_on(free, near, ((1, 2), (4, 1))), ("yes", (0, 2, 0, 0, 1)))
            self.assertEqual(gone_on(free, near, tuple((place, 2 - place % 3) for place in range(5)))[0], "yes")

    def test_without_places_and_without_rows(self):
        for width in (1, 2, 3):
            for near in nears(width):
                self.assertEqual(gone_on(Puzzle(Book(width, []), 0, []), near, ()), ("yes", ()))
                self.assertEqual(list(answers_near(Puzzle(Book(width, []), 0, []), near)), [()])
                self.assertEqual(dead_ends(Puzzle(Book(width, []), 0, []), near), [])
                self.assertEqual(gone_on(Puzzle(Book(width, []), 2, []), near, ((1, 0),)), ("yes", (0, 0)))
        empty = Puzzle(Book(2, [EMPTY]), 2, [(0, (0, 0))])
        for near in (1, 2, 3):
            self.assertEqual(gone_on(empty, near, ()), ("struck", ()))
            self.assertEqual((list(answers_near(empty, near)), dead_ends(empty, near)), ([], []))

    def test_sixty_places(self):
        for near in (1, 2, 3):
            self.assertEqual(gone_on(ring(60), near, ((59, 0),)), ("yes", (1, 0) * 30))
            self.assertEqual(list(answers_near(ring(60), near)), [(0, 1) * 30, (1, 0) * 30])
            self.assertEqual(dead_ends(ring(60), near), [])
        self.assertEqual(gone_on(ring(60), 3, tuple((place, 0) for place in range(0, 60, 2))), ("yes", (0, 1) * 30))
        free = Puzzle(Book(3, []), 60, [])
        for near in (1, 2):
            self.assertEqual(list(itertools.islice(answers_near(free, near), 2)), [(0,) * 60, (0,) * 59 + (1,)])
        self.assertEqual(dead_ends(ring(59), 1), [()])
        self.assertEqual(dead_ends(ring(59), 2), [])


class WaysTest(unittest.TestCase):
    def test_against_a_plain_going_on(self):
        stuck = {near: 0 for near in (1, 2, 3)}
        for puzzle, near in puzzles_and_nears(3, 100, most_rows=9):
            found, ends = PlainGoing(puzzle, near).ends()
            self.assertEqual(list(answers_near(puzzle, near)), found)
            self.assertEqual(dead_ends(puzzle, near), ends)
            stuck[near] += len(ends)
        self.assertGreater(stuck[1], 20)

    def test_all_answers_are_come_to(self):
        for puzzle, near in puzzles_and_nears(4, 100, most_places=5):
            self.assertEqual(list(answers_near(puzzle=puzzle, near=near)), plain_answers(puzzle))

    def test_dead_ends_are_stuck(self):
        many = 0
        for puzzle, near in puzzles_and_nears(5, 100, most_places=5, most_rows=9):
            for choice in dead_ends(near=near, puzzle=puzzle):
                self.assertEqual(gone_on(puzzle, near, choice), ("stuck", choice, len(choice)))
                many += 1
        self.assertGreater(many, 10)

    def test_errors_are_raised_when_the_first_item_is_asked_for(self):
        made = answers_near(ring(3), 4)
        self.assertEqual(raised(lambda: next(made)), (BadNear, {}))

    def test_lists_told_are_new(self):
        told = dead_ends(ring(3), 1)
        spoil(told)
        self.assertEqual(dead_ends(ring(3), 1), [()])

    def test_the_same_question_has_the_same_answer(self):
        for puzzle, near in puzzles_and_nears(6, 40):
            again = Puzzle(puzzle.book, puzzle.places, puzzle.rows)
            for choice in all_choices(puzzle)[::7]:
                self.assertEqual(gone_on(puzzle, near, choice), gone_on(again, near, choice))


class PromisesTest(unittest.TestCase):
    def puzzles(self, source, book, places=4):
        for _ in range(4):
            uses = [source.randrange(len(book)) for _ in range(source.randint(1, 6))]
            yield Puzzle(book, places,
                         [(use, tuple(source.randrange(places) for _ in range(book[use].arity))) for use in uses])

    def check_without_dead_ends(self, puzzle, near):
        """Each good choice goes on to an answer, and there are no dead ends."""
        self.assertEqual(dead_ends(puzzle, near), [])
        many = 0
        for choice in all_choices(puzzle)[::2]:
            told = gone_on(puzzle, near, choice)
            # By two places, a good choice might still break a row of three; but no such row is in these books.
            self.assertIn(told[0], ("yes", "struck"))
            if told[0] == "yes":
                self.assertIsNone(first_broken(puzzle, told[1]))
                self.assertTrue(all(told[1][place] == value for place, value in choice))
                many += 1
        return many

    def test_books_with_an_agreement_have_no_dead_ends(self):
        source = random.Random(7)
        many = {2: 0, 3: 0}
        for _ in range(60):
            book = small_book(source, source.choice((2, 2, 3)))
            for near in nears(book.width)[1:]:
                if agreed(book, near)[0] == "yes":
                    for puzzle in self.puzzles(source, book):
                        many[near] += self.check_without_dead_ends(puzzle, near)
        self.assertGreater(min(many.values()), 500)

    def test_books_with_a_fold_and_single_values_have_no_dead_ends_at_places(self):
        source = random.Random(8)
        counts = [0, 0]
        for _ in range(120):
            book = small_book(source, source.choice((2, 2, 3)))
            told = folded(book.given())
            if told[0] == "yes":
                for puzzle in self.puzzles(source, book):
                    counts[0] += self.check_without_dead_ends(puzzle, 1)
            else:
                counts[1] += 1
                self.check_paper(book, told[1])
        self.assertGreater(counts[0], 300)
        self.assertGreater(counts[1], 20)

    def check_paper(self, book, paper):
        """A fooling puzzle of the book with all single values gives one of the book, with a choice that is no part of
        an answer, though looking at places with this choice given empties no place."""
        chosen = {}
        for table, spots in paper.rows:
            if table >= len(book):
                self.assertEqual(chosen.setdefault(spots[0], table - len(book)), table - len(book))
        rows = [row for row in paper.rows if row[0] < len(book)]
        puzzle, choice = Puzzle(book, paper.places, rows), tuple(sorted(chosen.items()))
        self.assertEqual(emptied(puzzle, choice=choice)[0], "no")
        self.assertEqual(list(answers(puzzle, choice=choice)), [])
        self.assertIn(gone_on(puzzle, 1, choice)[0], ("stuck",))

    def test_known_books(self):
        source = random.Random(9)
        least = Operation.by(3, 2, min)
        for tables in ([UP, *ONES], [LEAST, *ONES], [AWAY, *ONES]):
            book = Book(3, tables)
            if tables[0] is not AWAY:
                self.assertTrue(all(Fold.of_meet(least)((value,)) == value for value in range(3)))
            for puzzle in self.puzzles(source, book):
                self.assertEqual(dead_ends(puzzle, 1), [])
        self.assertNotEqual(dead_ends(Puzzle(Book(2, [UNLIKE, AT_MOST]), 3, ring(3).rows), 1), [])

    def test_what_is_kept_of_single_places_goes_on(self):
        for puzzle, near in puzzles_and_nears(10, 60):
            if near > 1 and puzzle.places > 0:
                kept = kept_choices(puzzle, near)
                pairs = itertools.product(range(puzzle.places), range(puzzle.book.width))
                for choice in [(pair,) for pair in pairs]:
                    self.assertEqual(gone_on(puzzle, near, choice)[0] == "struck", choice not in kept)
            elif puzzle.places > 0:
                for value in range(puzzle.book.width):
                    found = () in plain_kept(puzzle, ((0, value),))
                    self.assertEqual(gone_on(puzzle, 1, ((0, value),))[0] == "struck", found)


class ErrorsTest(unittest.TestCase):
    def test_bad_near(self):
        for puzzle, good in ((ring(3), (1, 2, 3)), (Puzzle(Book(1, []), 2, []), (1, 2, 3)),
                             (Puzzle(Book(3, []), 2, []), (1, 2))):
            for near in [*odd_but(*good), *[near for near in (0, 3, 4, -1) if near not in good]]:
                with self.subTest(near=near):
                    for choice in ((), None, ((0, 7),), *ODD[:5]):
                        self.assertEqual(raised(gone_on, puzzle, near, choice), (BadNear, {}))
                    self.assertEqual(raised(lambda: list(answers_near(puzzle, near))), (BadNear, {}))
                    self.assertEqual(raised(dead_ends, puzzle, near), (BadNear, {}))

    def test_bad_choice(self):
        for near in (1, 2, 3):
            for puzzle in (ring(3), Puzzle(Book(2, []), 3, [])):
                for choice in [*odd_but((), ((0, 1),)), *WRONG_CHOICES]:
                    with self.subTest(choice=choice):
                        self.assertEqual(raised(gone_on, puzzle, near, choice), (BadChoice, {}))


if __name__ == "__main__":
    unittest.main()
