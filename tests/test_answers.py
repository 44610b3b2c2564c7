"""Points 3, 5 and 6: answers, choices and trees of nearsettled.puzzles."""

import itertools
import random
import unittest

from nearsettled.errors import BadAnswer, BadChoice
from nearsettled.puzzles import answers, Book, first_broken, is_choice, Puzzle, shows_none, solved
from nearsettled.tables import Table
from tests.helpers import near, ODD, odd_but, otherwise, raised, spoil, WRONG_CHOICES
from tests.looks import all_choices, is_row_of, plain_answers, plain_choice, plain_tree
from tests.samples import COLOURS, EVEN, ODD_SUM, ring, some_puzzles, UNLIKE

def size(tree):
    return 1 if tree[0] == "broken" else 1 + sum(size(branch) for branch in tree[2])


class FirstBrokenTest(unittest.TestCase):
    def test_against_a_plain_look(self):
        for puzzle, _ in some_puzzles(1, 150):
            for told in itertools.product(range(puzzle.book.width), repeat=puzzle.places):
                broken = [number for number, row in enumerate(puzzle.rows) if not is_row_of(puzzle, row, told)]
                self.assertEqual(first_broken(puzzle, told), broken[0] if broken else None)

    def test_no_rows_and_no_places(self):
        book = Book(2, [])
        self.assertIsNone(first_broken(Puzzle(book, 0, []), ()))
        self.assertIsNone(first_broken(Puzzle(book, 2, []), (1, 0)))
        self.assertIsNone(first_broken(answer=(0,) * 60, puzzle=Puzzle(book, 60, [])))

    def test_a_place_that_stands_twice(self):
        puzzle = Puzzle(Book(2, [UNLIKE, Table.equal(2)]), 1, [(1, (0, 0)), (0, (0, 0))])
        self.assertEqual([first_broken(puzzle, (0,)), first_broken(puzzle, (1,))], [1, 1])

    def test_bad_answer(self):
        puzzle = Puzzle(Book(2, [UNLIKE]), 2, [(0, (0, 1))])
        wrong = [(0,), (0, 1, 0), [0, 1], (0, 2), (-1, 0), (0, True), (False, 1), (0, None), "01", (), ((0,), 1), None]
        for answer in [*odd_but((0, 0), (0, 1), (1, 0), (1, 1)), *wrong]:
            with self.subTest(answer=answer):
                self.assertEqual(raised(first_broken, puzzle, answer), (BadAnswer, {}))
        for answer in odd_but(()):
            self.assertEqual(raised(first_broken, Puzzle(Book(3, []), 0, []), answer), (BadAnswer, {}))


class ChoiceTest(unittest.TestCase):
    def test_all_choices_and_what_is_near_to_them(self):
        for width, places in ((1, 2), (2, 3), (3, 2), (2, 0)):
            puzzle = Puzzle(Book(width, []), places, [])
            for choice in all_choices(puzzle):
                self.assertIs(is_choice(puzzle, choice), True)
                for value in near(choice):
                    self.assertIs(is_choice(puzzle, value), plain_choice(puzzle, value), value)

    def test_of_any_value(self):
        puzzle = Puzzle(Book(2, [UNLIKE]), 3, [(0, (0, 1))])
        for value in odd_but((), ((0, 1),)):
            with self.subTest(value=value):
                self.assertIs(is_choice(puzzle, value), False)
        for value in WRONG_CHOICES:
            with self.subTest(value=value):
                self.assertIs(is_choice(puzzle=puzzle, value=value), False)

    def test_sixty_places(self):
        puzzle = Puzzle(Book(3, []), 60, [])
        self.assertTrue(is_choice(puzzle, tuple((place, place % 3) for place in range(60))))
        self.assertFalse(is_choice(puzzle, ((60, 0),)))

    def test_a_choice_that_breaks_rows_is_a_choice(self):
        self.assertTrue(is_choice(ring(3), ((0, 0), (1, 0), (2, 0))))

    def test_bad_choice_is_raised(self):
        puzzle = ring(3)
        for choice in [*odd_but((), ((0, 1),)), *WRONG_CHOICES]:
            with self.subTest(choice=choice):
                self.assertEqual(raised(lambda: list(answers(puzzle, choice=choice))), (BadChoice, {}))
                self.assertEqual(raised(solved, puzzle, choice=choice), (BadChoice, {}))
                self.assertEqual(raised(shows_none, puzzle, choice, None), (BadChoice, {}))
                self.assertEqual(raised(shows_none, puzzle, choice, solved(puzzle)[1]), (BadChoice, {}))


class AnswersTest(unittest.TestCase):
    def test_against_a_plain_trial(self):
        for puzzle, choice in some_puzzles(2, 600):
            self.assertEqual(list(answers(puzzle)), plain_answers(puzzle))
            self.assertEqual(list(answers(puzzle, choice=choice)), plain_answers(puzzle, choice))

    def test_against_a_plain_trial_of_more_places(self):
        for puzzle, choice in some_puzzles(3, 60, most_places=8, most_rows=14):
            self.assertEqual(list(answers(puzzle, choice=choice)), plain_answers(puzzle, choice))

    def test_without_places(self):
        puzzle = Puzzle(Book(2, []), 0, [])
        self.assertEqual(list(answers(puzzle)), [()])
        self.assertEqual(solved(puzzle), ("yes", ()))

    def test_without_rows(self):
        self.assertEqual(list(answers(Puzzle(Book(2, []), 2, []))), [(0, 0), (0, 1), (1, 0), (1, 1)])
        self.assertEqual(list(answers(Puzzle(Book(3, []), 2, []), choice=((0, 2),))), [(2, 0), (2, 1), (2, 2)])

    def test_sixty_places(self):
        free = Puzzle(Book(3, []), 60, [])
        first = list(itertools.islice(answers(free), 4))
        self.assertEqual(first, [(0,) * 59 + (0,), (0,) * 59 + (1,), (0,) * 59 + (2,), (0,) * 58 + (1, 0)])
        self.assertEqual(list(answers(ring(60))), [(0, 1) * 30, (1, 0) * 30])
        self.assertEqual(list(answers(ring(60), choice=((59, 0),))), [(1, 0) * 30])
        self.assertEqual(list(answers(ring(59))), [])

    def test_what_has_no_answer_at_the_last_places_ends_soon(self):
        rows = [(0, (57, 58)), (0, (58, 59)), (0, (59, 57))]
        self.assertEqual(list(answers(Puzzle(Book(2, [UNLIKE]), 60, rows))), [])
        last = Puzzle(Book(3, [COLOURS, Table.only(3, 1)]), 60, [(0, (59, 59)), (1, (0,))])
        self.assertEqual(list(answers(last)), [])
        self.assertEqual(solved(last)[0], "no")

    def test_errors_are_raised_when_the_first_item_is_asked_for(self):
        made = answers(ring(3), choice=None)
        self.assertEqual(raised(lambda: next(made)), (BadChoice, {}))
        later = answers(puzzle=ring(4), choice=())
        self.assertEqual(next(later), (0, 1, 0, 1))

    def test_two_generators_at_once(self):
        puzzle = ring(4, 5)
        one, other = answers(puzzle), answers(puzzle)
        self.assertEqual([pair for pair in zip(one, other)], [(told, told) for told in plain_answers(puzzle)])


class SolvedTest(unittest.TestCase):
    def check(self, puzzle, choice, found):
        self.assertIs(type(found), tuple)
        self.assertEqual(len(found), 2)
        if found[0] == "yes":
            self.assertIs(type(found[1]), tuple)
            self.assertIsNone(first_broken(puzzle, found[1]))
            self.assertTrue(all(found[1][place] == value for place, value in choice))
        else:
            self.assertEqual(found[0], "no")
            self.assertTrue(plain_tree(puzzle, choice, found[1]))
            self.assertIs(shows_none(puzzle, choice, found[1]), True)

    def test_against_a_plain_trial(self):
        for puzzle, choice in some_puzzles(4, 800, most_rows=12):
            for given in ((), choice):
                found = solved(puzzle, choice=given)
                self.assertEqual(found[0], "yes" if plain_answers(puzzle, given) else "no")
                self.check(puzzle, given, found)

    def test_all_choices(self):
        for puzzle, _ in some_puzzles(5, 40, most_places=4):
            for choice in all_choices(puzzle):
                found = solved(puzzle, choice=choice)
                self.assertEqual(found[0], "yes" if plain_answers(puzzle, choice) else "no")
                self.check(puzzle, choice, found)

    def test_the_same_question_has_the_same_answer(self):
        for puzzle, choice in some_puzzles(6, 100, most_rows=12):
            found = solved(puzzle, choice=choice)
            again = Puzzle(puzzle.book, puzzle.places, puzzle.rows)
            self.assertEqual(solved(puzzle, choice=choice), found)
            self.assertEqual(solved(again, choice=choice), found)

    def test_trees_told_can_be_changed(self):
        puzzle = ring(5)
        found = solved(puzzle)
        spoil(found)
        self.assertNotEqual(solved(puzzle), found)
        self.check(puzzle, (), solved(puzzle))

    def test_sixty_places(self):
        for many in (59, 60):
            self.check(ring(many, 60), (), solved(ring(many, 60)))
        self.check(ring(60), ((0, 0), (59, 0)), solved(ring(60), choice=((0, 0), (59, 0))))
        all_places = tuple((place, place % 2) for place in range(60))
        self.assertEqual(solved(ring(60), choice=all_places), ("yes", (0, 1) * 30))
        self.assertEqual(solved(Puzzle(Book(3, []), 60, []))[0], "yes")

    def big_puzzles(self):
        """Puzzles of 60 places, with and without answers, for which a search that goes any way takes too long."""
        source = random.Random(7)
        clauses = [Table(2, 3, [row for row in itertools.product((0, 1), repeat=3) if row != out])
                   for out in itertools.product((0, 1), repeat=3)]
        for tables, counts in (([COLOURS], (110, 150, 1500)), (clauses, (200, 270, 1500)), ([EVEN, ODD_SUM], (50, 70))):
            book = Book(tables[0].width, tables)
            for many in counts:
                uses = [source.randrange(len(book)) for _ in range(many)]
                yield Puzzle(book, 60, [(use, tuple(source.sample(range(60), book[use].arity))) for use in uses])
        least = Table(3, 3, [row for row in itertools.product(range(3), repeat=3) if row[2] >= min(row[:2])])
        book = Book(3, [least, Table(3, 1, [(1,), (2,)]), Table.only(3, 0)])
        chain = [(0, (place, place + 1, place + 2)) for place in range(58)]
        yield Puzzle(book, 60, chain + [(1, (0,)), (1, (1,)), (2, (59,))])
        yield Puzzle(book, 60, chain + [(1, (0,)), (2, (1,)), (2, (59,))])
        for many in (20, 24):
            yield self.sums_at_corners(source, many)
        for _ in range(10):
            three = [Table(3, 3, source.sample(list(itertools.product(range(3), repeat=3)), 13)) for _ in range(2)]
            round_about = [(source.randrange(2), (at, (at + 1) % 60, (at + 2) % 60)) for at in range(60)]
            yield Puzzle(Book(3, three), 60, round_about)

    def sums_at_corners(self, source, many):
        """Places are edges between corners; all sums of three edges at a corner are even, but one is odd."""
        ends = [corner for corner in range(many) for _ in range(3)]
        while any(one == other for one, other in zip(ends[::2], ends[1::2])):
            source.shuffle(ends)
        rows = [(0 if corner else 1, tuple(at // 2 for at in range(3 * many) if ends[at] == corner))
                for corner in range(many)]
        return Puzzle(Book(2, [EVEN, ODD_SUM]), 3 * many // 2, rows)

    def test_big_puzzles(self):
        words = []
        for puzzle in self.big_puzzles():
            found = solved(puzzle)
            words.append(found[0])
            if found[0] == "yes":
                self.check(puzzle, (), found)
            else:
                self.assertTrue(shows_none(puzzle, (), found[1]))
                self.assertLess(size(found[1]), 200000)
        self.assertGreater(min(words.count("yes"), words.count("no")), 5)

    def test_first_answers_of_a_big_puzzle(self):
        for puzzle in list(self.big_puzzles())[:2]:
            told = list(itertools.islice(answers(puzzle), 20))
            self.assertEqual(told, sorted(set(told)))
            self.assertEqual(told == [], solved(puzzle)[0] == "no")
            self.assertTrue(all(first_broken(puzzle, one) is None for one in told))


class ShowsNoneTest(unittest.TestCase):
    def test_by_hand(self):
        puzzle = Puzzle(Book(2, [UNLIKE]), 2, [(0, (0, 0)), (0, (0, 1))])
        right = ("split", 0, [("broken", 0), ("broken", 0)])
        self.assertTrue(shows_none(puzzle, (), right))
        self.assertTrue(shows_none(value=("broken", 0), choice=((0, 1),), puzzle=puzzle))
        self.assertTrue(shows_none(puzzle, ((1, 0),), right))
        self.assertTrue(shows_none(puzzle, (), ("split", 1, [right, right])))
        self.assertTrue(shows_none(puzzle, ((0, 1), (1, 1)), ("broken", 1)))
        for choice, value in (((), ("broken", 0)), (((1, 0),), ("broken", 0)), (((0, 0),), right),
                              (((0, 0),), ("broken", 1)), (((0, 0), (1, 1)), ("broken", 1)), ((), ("broken", 2)),
                              ((), ("split", 0, [("broken", 0)])), ((), ("split", 0, [("broken", 0)] * 3)),
                              ((), ("split", 0, (("broken", 0), ("broken", 0)))), ((), ("split", 0, [])),
                              ((), ("split", 2, [("broken", 0)] * 2)), ((), ("split", False, [("broken", 0)] * 2)),
                              ((), ["split", 0, [("broken", 0)] * 2]), ((), ("split", 0, [("broken", False)] * 2)),
                              ((), ("split", 0, [right, right])), ((), ("split", -1, [right, right])),
                              ((), ("split", 1, [right, ("broken", 0)])), (((0, 0),), ("broken", -2))):
            with self.subTest(choice=choice, value=value):
                self.assertIs(shows_none(puzzle, choice, value), False)

    def test_values_with_one_part_otherwise(self):
        many = 0
        for puzzle, choice in some_puzzles(9, 150, most_places=4, most_rows=9):
            word, tree = solved(puzzle, choice=choice)
            if word == "no" and size(tree) < 30:
                for value in otherwise(tree):
                    right = plain_tree(puzzle, choice, value)
                    self.assertIs(shows_none(puzzle, choice, value), right, (puzzle.rows, choice, value))
                many += 1
        self.assertGreater(many, 40)

    def test_right_trees_for_other_choices_and_other_puzzles(self):
        for puzzle, choice in some_puzzles(10, 60, most_places=4, most_rows=9):
            word, tree = solved(puzzle, choice=choice)
            if word == "no":
                for other in all_choices(puzzle):
                    self.assertIs(shows_none(puzzle, other, tree), plain_tree(puzzle, other, tree))
                for number in range(len(puzzle)):
                    part = puzzle.part([at for at in range(len(puzzle)) if at != number])
                    self.assertIs(shows_none(part, choice, tree), plain_tree(part, choice, tree))

    def test_of_any_value(self):
        for puzzle in (ring(3), Puzzle(Book(2, []), 0, []), Puzzle(Book(2, []), 3, [])):
            for value in ODD:
                with self.subTest(value=value):
                    self.assertIs(shows_none(puzzle, (), value), False)

    def test_trees_handed_in_stay_as_they_are(self):
        puzzle = ring(5)
        tree, same = solved(puzzle)[1], solved(puzzle)[1]
        self.assertTrue(shows_none(puzzle, (), tree))
        self.assertEqual(tree, same)

    def test_a_deep_tree(self):
        rows = [(0, (place, place)) for place in range(60)]
        puzzle = Puzzle(Book(1, [Table(1, 2, [])]), 60, rows)
        tree = ("broken", 59)
        for place in range(60):
            tree = ("split", place, [tree])
        self.assertTrue(shows_none(puzzle, (), tree))
        self.assertFalse(shows_none(puzzle, (), ("split", 0, [tree])))


if __name__ == "__main__":
    unittest.main()
