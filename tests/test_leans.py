"""Points 3, 7, 21 and 22 for nearsettled.leans."""

import random
import unittest

from nearsettled.errors import BadChoice, HasAnswer
from nearsettled.leans import lean, shows_lean
from nearsettled.puzzles import Book, first_broken, Puzzle, shows_none, solved
from nearsettled.tables import Table
from tests.helpers import ODD, odd_but, otherwise, raised, spoil, WRONG_CHOICES
from tests.looks import all_choices, plain_answers, plain_lean
from tests.samples import COLOURS, ring, some_puzzles, UNLIKE


def without_answers(seed, many, **bounds):
    """Puzzles, each with a choice with which no answer goes on."""
    for puzzle, choice in some_puzzles(seed, many, **bounds):
        if not plain_answers(puzzle, choice):
            yield puzzle, choice


class LeanTest(unittest.TestCase):
    def check_plainly(self, puzzle, choice, told):
        """Look over a lean part by a trial of all tuples."""
        numbers, tree, others = told
        self.assertEqual(numbers, sorted(set(numbers)))
        part = puzzle.part(numbers)
        self.assertEqual(plain_answers(part, choice), [])
        self.assertTrue(shows_none(part, choice, tree))
        self.assertEqual(len(others), len(numbers))
        for at, answer in enumerate(others):
            rest = part.part([other for other in range(len(part)) if other != at])
            self.assertIn(answer, plain_answers(rest, choice))

    def test_against_a_plain_trial(self):
        many = 0
        for puzzle, choice in without_answers(1, 500, most_rows=10):
            told = lean(puzzle, choice=choice)
            self.assertEqual([type(part) for part in (told, *told)], [tuple, list, tuple, list])
            self.check_plainly(puzzle, choice, told)
            self.assertIs(shows_lean(puzzle, choice, told), True)
            self.assertTrue(plain_lean(puzzle, choice, told))
            many += 1
        self.assertGreater(many, 150)

    def test_has_answer(self):
        many = 0
        for puzzle, choice in some_puzzles(2, 200):
            found = plain_answers(puzzle, choice)
            if found:
                kind, told = raised(lean, puzzle, choice=choice)
                self.assertIs(kind, HasAnswer)
                self.assertIn(told["answer"], found)
                many += 1
        self.assertGreater(many, 50)

    def test_without_places_and_without_rows(self):
        self.assertEqual(raised(lean, Puzzle(Book(3, []), 0, [])), (HasAnswer, {"answer": ()}))
        self.assertIs(raised(lean, puzzle=Puzzle(Book(3, [COLOURS]), 60, []))[0], HasAnswer)

    def test_a_choice_may_be_to_blame(self):
        puzzle = Puzzle(Book(2, [UNLIKE]), 3, [(0, (0, 1)), (0, (1, 2)), (0, (0, 1))])
        self.assertIs(raised(lean, puzzle)[0], HasAnswer)
        numbers, tree, others = lean(puzzle, choice=((0, 0), (2, 1)))
        self.assertIn(numbers, ([0, 1], [1, 2]))
        self.assertEqual(sorted(others), [(0, 0, 1), (0, 1, 1)])
        self.assertTrue(shows_none(puzzle.part(numbers), ((0, 0), (2, 1)), tree))

    def test_what_is_chosen_stays_chosen(self):
        puzzle = Puzzle(Book(2, [UNLIKE, Table.equal(2)]), 2, [(0, (0, 1)), (1, (0, 1))])
        for choice in (((0, 0),), ((0, 1),), ((1, 0),), ((1, 1),), ()):
            told = lean(puzzle, choice=choice)
            self.assertEqual(told[0], [0, 1])
            self.check_plainly(puzzle, choice, told)

    def test_equal_rows_and_rows_without_a_value(self):
        empty = Puzzle(Book(2, [Table(2, 2, []), UNLIKE]), 2, [(1, (0, 1)), (0, (0, 1)), (0, (0, 1)), (1, (0, 0))])
        numbers, tree, others = lean(empty)
        self.assertEqual(len(numbers), 1)
        self.assertIn(numbers[0], [1, 2, 3])
        self.check_plainly(empty, (), (numbers, tree, others))

    def test_sixty_places(self):
        for many in (59, 3):
            puzzle = ring(many, 60)
            numbers, tree, others = lean(puzzle)
            self.assertEqual(numbers, list(range(many)))
            self.assertTrue(shows_lean(puzzle, (), (numbers, tree, others)))
            for at, answer in enumerate(others):
                self.assertEqual(first_broken(puzzle, answer), at)

    def test_big_puzzles(self):
        source = random.Random(3)
        for many in (150, 300, 1500):
            uses = [(0, tuple(source.sample(range(60), 2))) for _ in range(many)]
            puzzle = Puzzle(Book(3, [COLOURS]), 60, uses)
            self.assertEqual(solved(puzzle)[0], "no")
            self.assertTrue(shows_lean(puzzle, (), lean(puzzle)))

    def test_the_same_question_has_the_same_answer(self):
        for puzzle, choice in without_answers(4, 60, most_rows=10):
            again = Puzzle(puzzle.book, puzzle.places, puzzle.rows)
            self.assertEqual(lean(puzzle, choice=choice), lean(again, choice=choice))

    def test_lists_told_can_be_changed(self):
        puzzle = ring(5)
        told = lean(puzzle)
        spoil(told)
        self.check_plainly(puzzle, (), lean(puzzle))

    def test_bad_choice(self):
        free = Puzzle(Book(2, [UNLIKE]), 3, [])
        for puzzle in (free, ring(3)):
            for choice in [*odd_but((), ((0, 1),)), *WRONG_CHOICES]:
                with self.subTest(choice=choice):
                    self.assertEqual(raised(lean, puzzle, choice=choice), (BadChoice, {}))
                    self.assertEqual(raised(shows_lean, puzzle, choice, None), (BadChoice, {}))
                    self.assertEqual(raised(shows_lean, ring(3), choice, lean(ring(3))), (BadChoice, {}))


class ShowsLeanTest(unittest.TestCase):
    def test_by_hand(self):
        puzzle = Puzzle(Book(2, [UNLIKE, Table.only(2, 1)]), 2, [(1, (0,)), (0, (0, 0)), (1, (1,)), (0, (0, 1))])
        tree = ("split", 0, [("broken", 0), ("split", 1, [("broken", 1), ("broken", 2)])])
        right = ([0, 2, 3], tree, [(0, 1), (1, 0), (1, 1)])
        self.assertTrue(shows_lean(value=right, choice=(), puzzle=puzzle))
        self.assertTrue(shows_lean(puzzle, (), ([1], ("split", 0, [("broken", 0)] * 2), [(0, 1)])))
        self.assertTrue(shows_lean(puzzle, ((0, 1),), ([1], ("broken", 0), [(1, 0)])))
        self.assertFalse(shows_lean(puzzle, ((0, 1),), ([1], ("broken", 0), [(0, 0)])))
        self.assertFalse(shows_lean(puzzle, ((1, 0),), right))
        # Row 0 is not needed beside row 1.
        more = ([0, 1], ("split", 0, [("broken", 1)] * 2), [(0, 0), (1, 0)])
        self.assertFalse(shows_lean(puzzle, (), more))
        for numbers, order in (([3, 2, 0], [2, 1, 0]), ([0, 2, 2, 3], [0, 1, 1, 2]), ((0, 2, 3), [0, 1, 2])):
            self.assertFalse(shows_lean(puzzle, (), (numbers, tree, [right[2][at] for at in order])))
        for wrong in (([0, 2, 4], tree, right[2]), ([0, 2, True], tree, right[2]), ([-4, 2, 3], tree, right[2]),
                      ([0, 2, 3], tree, right[2][:2]), ([0, 2, 3], tree, [*right[2], (1, 1)]),
                      ([0, 2, 3], ("broken", 0), right[2]), ([False, 2, 3], tree, right[2]),
                      ([0, 2, 3], tree, tuple(right[2])), ([0, 2, 3], tree, [(0, 1), (1, 0), [1, 1]]),
                      ([0, 2, 3], tree, [(0, 1), (1, 0), (1, True)]), ([0, 2, 3], tree, [(0, 1), (1, 0), (1, 2)]),
                      ([], ("broken", 0), []), list(right), right[:2], (*right, None)):
            with self.subTest(wrong=wrong):
                self.assertIs(shows_lean(puzzle, (), wrong), False)

    def test_values_with_one_part_otherwise(self):
        many = 0
        for puzzle, choice in without_answers(5, 150, most_places=4, most_rows=9):
            told = lean(puzzle, choice=choice)
            if len(repr(told)) < 300:
                for value in otherwise(told):
                    right = plain_lean(puzzle, choice, value)
                    self.assertIs(shows_lean(puzzle, choice, value), right, (puzzle.rows, choice, value))
                many += 1
        self.assertGreater(many, 40)

    def test_for_other_choices(self):
        for puzzle, choice in without_answers(6, 60, most_places=4, most_rows=9):
            told = lean(puzzle, choice=choice)
            for other in all_choices(puzzle):
                self.assertIs(shows_lean(puzzle, other, told), plain_lean(puzzle, other, told))

    def test_of_any_value(self):
        for puzzle in (ring(3), Puzzle(Book(2, []), 0, [])):
            for value in [*ODD, (), ([], None, []), (None, None, None), ([0], None, [()])]:
                with self.subTest(value=value):
                    self.assertIs(shows_lean(puzzle, (), value), False)

    def test_lists_handed_in_stay_as_they_are(self):
        puzzle = ring(5)
        told, same = lean(puzzle), lean(puzzle)
        shows_lean(puzzle, (), told)
        self.assertEqual(told, same)


if __name__ == "__main__":
    unittest.main()
