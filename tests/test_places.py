"""Points 3, 8, 9, 17 and 21 for nearsettled.places."""

import itertools
import random
import unittest

from nearsettled.errors import BadChoice
from nearsettled.places import emptied, kept_values, shows_emptied, shows_sets, shows_strikes, strikes
from nearsettled.puzzles import Book, Puzzle
from nearsettled.tables import Table
from tests.helpers import ODD, odd_but, otherwise, raised, spoil, WRONG_CHOICES
from tests.looks import (all_choices, due, first_sets, plain_answers, plain_behind, plain_emptied, plain_kept,
                         plain_sets, plain_strikes)
from tests.samples import AT_MOST, COLOURS, ring, some_puzzles, UNLIKE

ABOVE = Table(3, 2, [(0, 1), (0, 2), (1, 2)])


def chain(many, table, ends):
    """A chain of places with a table from each to the next, and tables of one at its first and its last place."""
    rows = [(0, (place, place + 1)) for place in range(many - 1)] + [(1, (0,)), (2, (many - 1,))]
    return Puzzle(Book(table.width, [table, *ends]), many, rows)


class KeptValuesTest(unittest.TestCase):
    def test_against_a_plain_look_in_any_order(self):
        source = random.Random(1)
        for puzzle, choice in some_puzzles(1, 300):
            for given in ((), choice):
                for pick in (lambda told: told[0], lambda told: told[-1], source.choice):
                    self.assertEqual(kept_values(puzzle, choice=given), plain_kept(puzzle, given, pick))

    def test_the_greatest_family(self):
        for puzzle, choice in some_puzzles(2, 60, most_places=3):
            at_first = [sorted(some) for some in first_sets(puzzle, choice)]
            parts = [[set(part) for many in range(len(some) + 1) for part in itertools.combinations(some, many)]
                     for some in at_first]
            greatest = [set() for _ in range(puzzle.places)]
            for family in itertools.product(*parts):
                if not due(puzzle, family):
                    greatest = [one | other for one, other in zip(greatest, family)]
            self.assertEqual(kept_values(puzzle, choice=choice), [tuple(sorted(some)) for some in greatest])

    def test_kinds(self):
        told = kept_values(ring(3))
        self.assertEqual(told, [(0, 1)] * 3)
        self.assertEqual({type(told), *map(type, told)}, {list, tuple})

    def test_without_places_and_without_rows(self):
        self.assertEqual(kept_values(Puzzle(Book(2, []), 0, [])), [])
        self.assertEqual(kept_values(Puzzle(Book(3, []), 2, []), choice=((1, 2),)), [(0, 1, 2), (2,)])

    def test_a_place_that_stands_twice_is_asked_position_by_position(self):
        book = Book(2, [UNLIKE, AT_MOST, Table(2, 3, [(0, 1, 0), (1, 0, 1)])])
        self.assertEqual(kept_values(Puzzle(book, 1, [(0, (0, 0))])), [(0, 1)])
        self.assertEqual(kept_values(Puzzle(book, 2, [(2, (0, 0, 1))])), [(0, 1), (0, 1)])
        self.assertEqual(kept_values(Puzzle(book, 2, [(2, (0, 0, 1))]), choice=((0, 1),)), [(), ()])
        self.assertEqual(kept_values(Puzzle(book, 1, [(0, (0, 0))]), choice=((0, 0),)), [()])
        # The first position strikes 1 and the second one 0.
        twice = Puzzle(Book(3, [Table(3, 2, [(0, 1), (2, 1)])]), 1, [(0, (0, 0))])
        self.assertEqual(kept_values(twice), [()])

    def test_other_parts_go_on_when_a_place_is_emptied(self):
        book = Book(2, [Table(2, 1, []), AT_MOST, Table.only(2, 1)])
        puzzle = Puzzle(book, 4, [(0, (0,)), (1, (1, 2)), (2, (1,))])
        self.assertEqual(kept_values(puzzle), [(), (1,), (1,), (0, 1)])
        self.assertEqual(len(strikes(puzzle)), 4)

    def test_answers_are_kept_and_emptied_puzzles_have_none(self):
        for puzzle, choice in some_puzzles(3, 200):
            kept = kept_values(puzzle, choice=choice)
            for told in plain_answers(puzzle, choice):
                self.assertTrue(all(value in some for value, some in zip(told, kept)))

    def test_sixty_places(self):
        puzzle = chain(60, AT_MOST, [Table.only(2, 1), Table.full(2, 1)])
        self.assertEqual(kept_values(puzzle), [(1,)] * 60)
        self.assertEqual(kept_values(puzzle.part(list(range(59))), choice=((30, 0),)), [(0,)] * 31 + [(0, 1)] * 29)
        self.assertEqual(kept_values(Puzzle(Book(3, []), 60, [])), [(0, 1, 2)] * 60)
        self.assertEqual(kept_values(chain(60, ABOVE, [Table.full(3, 1)] * 2)), [()] * 60)

    def test_values_renamed_and_places_renumbered(self):
        source = random.Random(4)
        for puzzle, choice in some_puzzles(5, 150):
            order = source.sample(range(puzzle.book.width), puzzle.book.width)
            spots = source.sample(range(puzzle.places), puzzle.places)
            rows = [(table, tuple(spots[place] for place in row)) for table, row in puzzle.rows]
            renamed = Puzzle(puzzle.book.renamed(order), puzzle.places, rows)
            chosen = tuple(sorted((spots[place], order[value]) for place, value in choice))
            wanted = [None] * puzzle.places
            for place, some in enumerate(kept_values(puzzle, choice=choice)):
                wanted[spots[place]] = tuple(sorted(order[value] for value in some))
            self.assertEqual(kept_values(renamed, choice=chosen), wanted)


class StrikesTest(unittest.TestCase):
    def test_in_order_and_all_of_them(self):
        for puzzle, choice in some_puzzles(6, 300):
            for given in ((), choice):
                told = strikes(puzzle, choice=given)
                self.assertIs(type(told), list)
                kept = plain_behind(puzzle, told, given)
                self.assertIsNotNone(kept)
                self.assertEqual([tuple(sorted(some)) for some in kept], plain_kept(puzzle, given))
                self.assertIs(shows_strikes(puzzle, told, choice=given), True)
                self.assertEqual(len({strike[:2] for strike in told}), len(told))

    def test_none(self):
        self.assertEqual(strikes(Puzzle(Book(2, []), 0, [])), [])
        self.assertEqual(strikes(ring(3)), [])
        self.assertEqual(strikes(Puzzle(Book(3, []), 60, []), choice=((0, 1),)), [])

    def test_sixty_places(self):
        puzzle = chain(60, ABOVE, [Table.full(3, 1)] * 2)
        told = strikes(puzzle=puzzle, choice=())
        self.assertEqual(len(told), 180)
        self.assertTrue(plain_emptied(puzzle, told) and shows_emptied(puzzle, told))


class EmptiedTest(unittest.TestCase):
    def test_against_a_plain_look(self):
        words = []
        for puzzle, choice in some_puzzles(7, 400):
            for given in ((), choice):
                word, told = emptied(puzzle, choice=given)
                kept = plain_kept(puzzle, given)
                self.assertEqual(word, "yes" if () in kept else "no")
                if word == "yes":
                    self.assertTrue(plain_emptied(puzzle, told, given))
                    self.assertIs(shows_emptied(puzzle, told, choice=given), True)
                    self.assertEqual(plain_answers(puzzle, given), [])
                else:
                    self.assertEqual(told, kept)
                    if given == ():
                        self.assertIs(shows_sets(puzzle, told), True)
                words.append(word)
        self.assertGreater(min(words.count("yes"), words.count("no")), 100)

    def test_kinds(self):
        for puzzle in (ring(3), Puzzle(Book(2, [Table(2, 1, [])]), 1, [(0, (0,))])):
            found = emptied(puzzle=puzzle)
            self.assertEqual((type(found), len(found), type(found[1])), (tuple, 2, list))

    def test_without_places_and_without_rows(self):
        self.assertEqual(emptied(Puzzle(Book(2, []), 0, [])), ("no", []))
        self.assertEqual(emptied(Puzzle(Book(2, []), 2, []), choice=((0, 1),)), ("no", [(1,), (0, 1)]))

    def test_sixty_places(self):
        puzzle = chain(60, AT_MOST, [Table.only(2, 1), Table.only(2, 0)])
        word, told = emptied(puzzle)
        self.assertEqual((word, shows_emptied(puzzle, told)), ("yes", True))
        self.assertEqual(emptied(puzzle.part(list(range(60)))), ("no", [(1,)] * 60))

    def test_the_same_question_has_the_same_answer(self):
        for puzzle, choice in some_puzzles(8, 60):
            again = Puzzle(puzzle.book, puzzle.places, puzzle.rows)
            for function in (kept_values, strikes, emptied):
                self.assertEqual(function(puzzle, choice=choice), function(again, choice=choice))

    def test_lists_told_can_be_changed(self):
        for puzzle in (ring(4), chain(5, AT_MOST, [Table.only(2, 1), Table.only(2, 0)])):
            for function in (kept_values, strikes, emptied):
                told, same = function(puzzle), function(puzzle)
                spoil(told)
                self.assertNotEqual(told, same)
                self.assertEqual(function(puzzle), same)


class ShowsTest(unittest.TestCase):
    def check(self, puzzle, value, choice):
        right = plain_strikes(puzzle, value, choice), plain_emptied(puzzle, value, choice)
        found = shows_strikes(puzzle, value, choice=choice), shows_emptied(puzzle, value, choice=choice)
        self.assertEqual(found, right, (puzzle.rows, choice, value))
        self.assertEqual({type(one) for one in found}, {bool})

    def test_strikes_with_one_part_otherwise(self):
        for puzzle, choice in some_puzzles(9, 120):
            told = strikes(puzzle, choice=choice)
            if len(told) < 8:
                for value in otherwise(told):
                    self.check(puzzle, value, choice)

    def test_strikes_in_other_orders_and_parts_of_them(self):
        source = random.Random(10)
        for puzzle, choice in some_puzzles(11, 150):
            told = strikes(puzzle, choice=choice)
            for many in range(len(told) + 1):
                self.check(puzzle, told[:many], choice)
                self.check(puzzle, told[many:], choice)
                self.check(puzzle, source.sample(told, many), choice)

    def test_strikes_for_other_choices(self):
        for puzzle, choice in some_puzzles(12, 60, most_places=3):
            told = strikes(puzzle, choice=choice)
            for other in all_choices(puzzle):
                self.check(puzzle, told, other)

    def test_strikes_by_hand(self):
        puzzle = chain(3, AT_MOST, [Table.only(2, 1), Table.full(2, 1)])
        right = [(0, 0, 2, 0), (1, 0, 0, 1), (2, 0, 1, 1)]
        self.assertTrue(shows_strikes(puzzle=puzzle, value=right, choice=()))
        self.assertFalse(shows_emptied(puzzle=puzzle, value=right, choice=()))
        self.assertTrue(shows_emptied(puzzle, [*right[:2], (2, 0, 1, 1)], choice=((2, 0),)))
        self.assertTrue(shows_strikes(puzzle, []))
        self.assertFalse(shows_emptied(puzzle, []))
        for wrong in (right[::-1], right[1:], [right[0], right[0]], [(0, 1, 2, 0)], [(0, 0, 3, 0)], [(0, 0, 2, 1)],
                      [(1, 0, 2, 0)], [(0, 0, 5, 0)], [(0, 0, -3, 0)], [(0, False, 2, 0)], [(0, 0, 2)], [(0, 0, 2, -1)],
                      [[0, 0, 2, 0]], tuple(right), [(False, 0, 2, 0)], [(0, 0, 2, False)], [(3, 0, 2, 0)], None):
            with self.subTest(wrong=wrong):
                self.assertIs(shows_strikes(puzzle, wrong), False)
                self.assertIs(shows_emptied(puzzle, wrong), False)
        self.assertFalse(shows_strikes(puzzle, right, choice=((0, 1),)))

    def test_sets_all_of_them(self):
        for puzzle, _ in some_puzzles(13, 100, most_places=3):
            width = puzzle.book.width
            some = [part for many in range(width + 1) for part in itertools.combinations(range(width), many)]
            for value in itertools.product(some, repeat=puzzle.places):
                self.assertIs(shows_sets(puzzle, list(value)), plain_sets(puzzle, list(value)))

    def test_sets_with_one_part_otherwise(self):
        many = 0
        for puzzle, _ in some_puzzles(14, 120):
            word, told = emptied(puzzle)
            if word == "no":
                for value in otherwise(told):
                    self.assertIs(shows_sets(puzzle, value), plain_sets(puzzle, value), (puzzle.rows, value))
                many += 1
        self.assertGreater(many, 40)

    def test_sets_by_hand(self):
        puzzle = Puzzle(Book(3, [COLOURS]), 2, [(0, (0, 1))])
        for right in ([(0,), (1,)], [(0, 1), (0, 1)], [(0, 1), (2,)], [(0, 1, 2), (0, 1)]):
            self.assertIs(shows_sets(value=right, puzzle=puzzle), True)
        for wrong in ([(0,), (0,)], [(0, 1), ()], [(1, 0), (0, 1)], [(0, 0), (1,)], [(0,)], [(0,), (1,), (2,)], [[0], (1,)],
                      [(0,), (True,)], [(0,), (3,)], ((0,), (1,)), [(0, 1, 2), (2,)], None, [None, None], [0, 1]):
            with self.subTest(wrong=wrong):
                self.assertIs(shows_sets(puzzle, wrong), False)
        self.assertTrue(shows_sets(Puzzle(Book(3, []), 0, []), []))
        self.assertFalse(shows_sets(Puzzle(Book(3, []), 0, []), ()))
        self.assertTrue(shows_sets(Puzzle(Book(3, []), 60, []), [(0, 2)] * 60))

    def test_of_any_value(self):
        for puzzle in (ring(3), Puzzle(Book(2, []), 0, [])):
            for value in odd_but([]):
                with self.subTest(value=value):
                    self.assertIs(shows_strikes(puzzle, value), False)
                    self.assertIs(shows_emptied(puzzle, value), False)
                    self.assertIs(shows_sets(puzzle, value), False)
                    self.assertIs(shows_strikes(puzzle, [value]), False)

    def test_lists_handed_in_stay_as_they_are(self):
        puzzle = chain(5, AT_MOST, [Table.only(2, 1), Table.only(2, 0)])
        told, same = strikes(puzzle), strikes(puzzle)
        sets, copied = kept_values(ring(3)), kept_values(ring(3))
        self.assertTrue(shows_strikes(puzzle, told) and shows_emptied(puzzle, told) and shows_sets(ring(3), sets))
        self.assertEqual((told, sets), (same, copied))

    def test_bad_choice(self):
        puzzle = ring(3)
        for choice in [*odd_but((), ((0, 1),)), *WRONG_CHOICES]:
            with self.subTest(choice=choice):
                for function in (kept_values, strikes, emptied):
                    self.assertEqual(raised(function, puzzle, choice=choice), (BadChoice, {}))
                for function in (shows_strikes, shows_emptied):
                    for value in ([], None, ODD):
                        self.assertEqual(raised(function, puzzle, value, choice=choice), (BadChoice, {}))


if __name__ == "__main__":
    unittest.main()
