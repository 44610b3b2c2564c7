"""Points 2, 3, 13, 17, 21 and 22 for nearsettled.choices."""

import itertools
import random
import unittest

from nearsettled.choices import (choice_strikes, emptied_near, kept_choices, shows_choice_strikes, shows_kept_choices)
from nearsettled.errors import BadNear
from nearsettled.puzzles import Book, Puzzle, solved
from nearsettled.tables import Table
from tests.far_looks import (near_choices, plain_choice_strikes, plain_kept_choices, plain_shows_kept, plain_struck)
from tests.helpers import ODD, odd_but, otherwise, raised, spoil
from tests.looks import plain_answers, plain_kept
from tests.samples import AT_MOST, clauses, COLOURS, EMPTY, EVEN, ODD_SUM, ring, some_puzzles, UNLIKE

FUNCTIONS = (kept_choices, choice_strikes, emptied_near)


def nears(puzzle):
    return (2,) if puzzle.book.width == 3 else (2, 3)


def puzzles_and_nears(seed, many, **bounds):
    """Puzzles of all shapes, each with each near that its width lets."""
    for puzzle, _ in some_puzzles(seed, many, **{"most_places": 4, **bounds}):
        for near in nears(puzzle):
            yield puzzle, near


class KeptChoicesTest(unittest.TestCase):
    def test_against_a_plain_look_in_any_order(self):
        source = random.Random(1)
        for puzzle, near in puzzles_and_nears(1, 150):
            self.assertEqual(kept_choices(puzzle, near), plain_kept_choices(puzzle, near))
            for pick in (lambda some: some[::-1], lambda some: source.sample(some, len(some))):
                struck = plain_struck(puzzle, near, pick)
                kept = sorted(choice for choice in near_choices(puzzle, near) if choice not in struck)
                self.assertEqual(kept_choices(puzzle, near), kept)

    def test_more_places(self):
        for puzzle, near in puzzles_and_nears(2, 25, most_places=6, most_rows=12):
            self.assertEqual(kept_choices(puzzle, near), plain_kept_choices(puzzle, near))

    def test_dense_puzzles(self):
        source = random.Random(3)
        counts = set()
        for many in range(12, 30):
            puzzle = clauses(source, many, 5)
            for near in (2, 3):
                told = kept_choices(puzzle, near)
                counts.add(len(told))
                self.assertEqual(told, plain_kept_choices(puzzle, near))
        self.assertGreater(len(counts), 12)

    def test_by_hand(self):
        pair = Puzzle(Book(2, [UNLIKE]), 2, [(0, (0, 1))])
        told = [(), ((0, 0),), ((0, 0), (1, 1)), ((0, 1),), ((0, 1), (1, 0)), ((1, 0),), ((1, 1),)]
        self.assertEqual(kept_choices(near=2, puzzle=pair), told)
        self.assertEqual(kept_choices(pair, 3), told)
        self.assertEqual(kept_choices(ring(3), 2), [])
        # Three places that are unlike each other: any two unlike values stand together in an answer.
        clique = Puzzle(Book(3, [COLOURS]), 3, [(0, (0, 1)), (0, (1, 2)), (0, (0, 2))])
        self.assertEqual(len(kept_choices(clique, 2)), 1 + 9 + 18)

    def test_without_places_and_without_rows(self):
        for width in (1, 2, 3):
            puzzle = Puzzle(Book(width, []), 0, [])
            for near in nears(puzzle):
                self.assertEqual(kept_choices(puzzle, near), [()])
                self.assertEqual(choice_strikes(puzzle, near), [])
                self.assertEqual(emptied_near(puzzle, near), ("no", [()]))
        one = Puzzle(Book(3, []), 1, [])
        self.assertEqual(kept_choices(one, 2), [(), ((0, 0),), ((0, 1),), ((0, 2),)])
        self.assertEqual(kept_choices(Puzzle(Book(1, []), 2, []), 3), [(), ((0, 0),), ((0, 0), (1, 0)), ((1, 0),)])

    def test_a_table_without_rows(self):
        puzzle = Puzzle(Book(2, [EMPTY]), 3, [(0, (1, 1))])
        for near in (2, 3):
            self.assertEqual(kept_choices(puzzle, near), [])
            word, told = emptied_near(puzzle, near)
            self.assertEqual((word, told[-1][0]), ("yes", ()))
            self.assertTrue(shows_choice_strikes(puzzle, near, [((), ("row", 0))]))
            self.assertTrue(shows_choice_strikes(puzzle, near, [(((0, 1), (2, 0)), ("row", 0))]))

    def test_a_place_that_stands_twice(self):
        puzzle = Puzzle(Book(2, [UNLIKE, Table(2, 3, [(0, 0, 1), (1, 0, 0), (1, 1, 0)])]), 2, [(1, (0, 0, 1))])
        self.assertEqual(kept_choices(puzzle, 2), [(), ((0, 0),), ((0, 0), (1, 1)), ((0, 1),), ((0, 1), (1, 0)),
                                                   ((1, 0),), ((1, 1),)])
        self.assertEqual(kept_choices(Puzzle(puzzle.book, 1, [(0, (0, 0))]), 2), [])

    def test_parts_of_answers_are_kept(self):
        for puzzle, near in puzzles_and_nears(4, 120):
            kept = kept_choices(puzzle, near)
            for answer in plain_answers(puzzle):
                for places in itertools.combinations(range(puzzle.places), min(near, puzzle.places)):
                    self.assertIn(tuple((place, answer[place]) for place in places), kept)

    def test_what_is_kept_for_more_is_kept_for_less(self):
        for puzzle, near in puzzles_and_nears(5, 150, most_places=5):
            two = kept_choices(puzzle, 2)
            if near == 3:
                self.assertLessEqual({choice for choice in kept_choices(puzzle, 3) if len(choice) < 3}, set(two))
            single = {choice[0] for choice in two if len(choice) == 1}
            self.assertLessEqual(single, {(place, value) for place, some in enumerate(plain_kept(puzzle)) for value in some})

    def test_values_renamed(self):
        source = random.Random(6)
        for puzzle, near in puzzles_and_nears(6, 100):
            order = source.sample(range(puzzle.book.width), puzzle.book.width)
            renamed = Puzzle(puzzle.book.renamed(order), puzzle.places, puzzle.rows)
            wanted = sorted(tuple((place, order[value]) for place, value in choice)
                            for choice in kept_choices(puzzle, near))
            self.assertEqual(kept_choices(renamed, near), wanted)

    def test_sixty_places(self):
        source = random.Random(7)
        self.assertEqual(kept_choices(ring(59, 60), 2), [])
        even = kept_choices(ring(60), 3)
        self.assertEqual(len(even), 1 + 120 + 2 * 1770 + 2 * 34220)
        self.assertEqual(even, sorted(even))
        self.assertEqual(len(kept_choices(Puzzle(Book(2, []), 60, []), 3)), 280961)
        self.assertEqual(len(kept_choices(Puzzle(Book(3, []), 60, []), 2)), 1 + 180 + 1770 * 9)
        for many, near in ((200, 2), (200, 3), (1500, 2), (1500, 3)):
            puzzle = clauses(source, many)
            word, told = emptied_near(puzzle, near)
            self.assertEqual(word, "yes" if many == 1500 else "no")
            if word == "yes":
                self.assertEqual(solved(puzzle)[0], "no")
                self.assertTrue(shows_choice_strikes(puzzle, near, told))
                self.assertEqual(told[-1][0], ())
            else:
                self.assertTrue(shows_kept_choices(puzzle, near, told))


class StrikesTest(unittest.TestCase):
    def test_all_of_them_once_each_and_due(self):
        for puzzle, near in puzzles_and_nears(8, 150):
            told = choice_strikes(puzzle, near)
            self.assertIs(type(told), list)
            self.assertTrue(plain_choice_strikes(puzzle, near, told))
            self.assertIs(shows_choice_strikes(puzzle, near, told), True)
            self.assertEqual(sorted(choice for choice, _ in told), sorted(plain_struck(puzzle, near)))

    def test_emptied_near(self):
        words = []
        for puzzle, near in puzzles_and_nears(9, 200, most_rows=9):
            word, told = emptied_near(puzzle, near)
            words.append(word)
            struck = plain_struck(puzzle, near)
            if () in struck:
                self.assertEqual(word, "yes")
                self.assertTrue(plain_choice_strikes(puzzle, near, told))
                self.assertIn((), [choice for choice, _ in told])
                self.assertEqual(plain_answers(puzzle), [])
                self.assertEqual(len(struck), len(near_choices(puzzle, near)))
            else:
                self.assertEqual((word, told), ("no", plain_kept_choices(puzzle, near)))
        self.assertGreater(min(words.count("yes"), words.count("no")), 60)

    def test_puzzles_of_sums(self):
        # Four sums of three places, each two of which share a place: not all of them can be as they should be.
        rows = [(0, (0, 1, 2)), (0, (0, 3, 4)), (0, (1, 3, 5)), (1, (2, 4, 5))]
        puzzle = Puzzle(Book(2, [EVEN, ODD_SUM]), 6, rows)
        self.assertEqual(solved(puzzle)[0], "no")
        for near in (2, 3):
            self.assertEqual(kept_choices(puzzle, near), plain_kept_choices(puzzle, near))

    def test_the_same_question_has_the_same_answer(self):
        for puzzle, near in puzzles_and_nears(10, 40):
            again = Puzzle(puzzle.book, puzzle.places, puzzle.rows)
            for function in FUNCTIONS:
                self.assertEqual(function(puzzle, near), function(again, near))

    def test_lists_told_can_be_changed(self):
        for puzzle in (ring(4), ring(3)):
            for function in FUNCTIONS:
                told, same = function(puzzle, 2), function(puzzle, 2)
                spoil(told)
                self.assertNotEqual(told, same)
                self.assertEqual(function(puzzle, 2), same)


class ShowsTest(unittest.TestCase):
    def check(self, puzzle, near, value):
        found = shows_choice_strikes(puzzle, near, value), shows_kept_choices(puzzle, near, value)
        right = plain_choice_strikes(puzzle, near, value), plain_shows_kept(puzzle, near, value)
        self.assertEqual(found, right, (puzzle.rows, near, value))
        self.assertEqual({type(one) for one in found}, {bool})
        return found

    def test_values_with_one_part_otherwise(self):
        counts = [0, 0]
        for puzzle, near in puzzles_and_nears(11, 60, most_places=3):
            for value in (choice_strikes(puzzle, near), kept_choices(puzzle, near)):
                if len(value) < 12:
                    for other in otherwise(value):
                        strikes, kept = self.check(puzzle, near, other)
                        counts[0] += strikes
                        counts[1] += kept
        self.assertGreater(min(counts), 100)

    def test_strikes_in_other_orders_and_parts_of_them(self):
        source = random.Random(12)
        for puzzle, near in puzzles_and_nears(12, 40, most_places=3):
            told = choice_strikes(puzzle, near)
            for many in range(0, len(told) + 1, 1 + len(told) // 10):
                self.check(puzzle, near, told[:many])
                self.check(puzzle, near, told[many:])
                self.check(puzzle, near, source.sample(told, many))

    def test_all_reasons(self):
        source = random.Random(13)
        counts = [0, 0]
        for puzzle, near in puzzles_and_nears(13, 80, most_places=4):
            told = choice_strikes(puzzle, near)
            some = told[:source.randint(0, len(told))]
            choices = [choice for choice in near_choices(puzzle, near) if choice not in dict(some)]
            for choice in source.sample(choices, min(4, len(choices))):
                reasons = [("row", number) for number in range(len(puzzle) + 1)]
                reasons += [("place", place) for place in range(puzzle.places + 1)]
                reasons += [("part", part) for part, _ in some] + [("part", ()), ("part", choice), ("part", None)]
                for reason in reasons:
                    counts[self.check(puzzle, near, [*some, (choice, reason)])[0]] += 1
        self.assertGreater(min(counts), 300)

    def test_parts_of_what_is_kept(self):
        source = random.Random(14)
        counts = [0, 0]
        for puzzle, near in puzzles_and_nears(14, 80, most_places=3):
            kept = kept_choices(puzzle, near)
            for answer in plain_answers(puzzle)[:2]:
                parts = [tuple((place, answer[place]) for place in places) for many in range(near + 1)
                         for places in itertools.combinations(range(puzzle.places), many)]
                source.shuffle(parts)
                # The parts of one answer are enough to leave each other no reason.
                self.assertTrue(shows_kept_choices(puzzle, near, parts))
                counts[self.check(puzzle, near, parts + parts[:1])[1]] += 1
                counts[self.check(puzzle, near, parts[1:])[1]] += 1
            for _ in range(3):
                counts[self.check(puzzle, near, source.sample(kept, source.randint(0, len(kept))))[1]] += 1
            out = [choice for choice in near_choices(puzzle, near) if choice not in kept]
            counts[self.check(puzzle, near, kept + out[:1])[1]] += 1
        self.assertGreater(min(counts), 30)

    def test_a_row_of_three_places_is_seen_at_two(self):
        puzzle = Puzzle(Book(2, [EVEN, Table.only(2, 1)]), 3, [(0, (0, 1, 2))])
        every = near_choices(puzzle, 2)
        self.assertTrue(shows_kept_choices(puzzle, 2, every))
        without = [choice for choice in every if (2, 0) not in choice]
        # With the values 0 and 0, the place 2 would have to have the value 0.
        self.assertFalse(shows_kept_choices(puzzle, 2, without))
        strikes = [(((2, 0),), ("row", 1)), (((0, 0), (1, 0)), ("place", 2))]
        more = puzzle.added(1, (2,))
        self.assertTrue(shows_choice_strikes(more, 2, strikes))
        # The row of the place 2 alone counts as well before it strikes.
        self.assertTrue(shows_choice_strikes(more, 2, strikes[1:]))
        self.assertFalse(shows_choice_strikes(puzzle, 2, strikes[1:]))
        self.assertFalse(shows_choice_strikes(more, 2, [strikes[0], (((0, 0), (1, 1)), ("place", 2))]))
        # Three places are seen at once by three: the choice of all of them breaks the row.
        self.assertTrue(shows_choice_strikes(puzzle, 3, [(((0, 0), (1, 0), (2, 1)), ("row", 0))]))
        self.assertFalse(shows_choice_strikes(puzzle, 2, [(((0, 0), (1, 0), (2, 1)), ("row", 0))]))

    def test_by_hand(self):
        puzzle = ring(3)
        first = [(((0, 0), (1, 0)), ("row", 0)), (((0, 0), (2, 0)), ("row", 2)), (((1, 1), (2, 1)), ("row", 1))]
        right = [*first, (((0, 0), (1, 1)), ("place", 2))]
        self.assertTrue(shows_choice_strikes(puzzle=puzzle, near=2, value=right))
        self.assertTrue(shows_choice_strikes(puzzle, 3, right))
        # What breaks a row counts, even before it is struck.
        self.assertTrue(shows_choice_strikes(puzzle, 2, right[3:]))
        self.assertTrue(shows_choice_strikes(puzzle, 2, []))
        for wrong in ([(((0, 0), (1, 0)), ("row", 1))], [(((1, 0), (0, 0)), ("row", 0))], [(((0, 0),), ("row", 0))],
                      [(((0, 0), (1, 0)), ("row", 3))], [(((0, 0), (1, 0)), ("row", -3))], [first[0], first[0]],
                      [(((0, 0), (1, False)), ("row", 0))], [(((0, 0), (1, 0)), ("row", False))], tuple(first),
                      [(((0, 0), (1, 0)), ["row", 0])], [[((0, 0), (1, 0)), ("row", 0)]], [(((0, 0), (1, 0)), "row", 0)],
                      [first[0], (((0, 0), (1, 0), (2, 1)), ("part", ((0, 0), (1, 0))))],
                      [(((0, 0), (1, 1)), ("place", 0))], [(((0, 0),), ("part", ()))], [((), ("part", ()))]):
            with self.subTest(wrong=wrong):
                self.assertIs(shows_choice_strikes(puzzle, 2, wrong), False)
        part = (((0, 0), (1, 0), (2, 1)), ("part", ((0, 0), (1, 0))))
        self.assertTrue(shows_choice_strikes(puzzle, 3, [first[0], part]))
        self.assertFalse(shows_choice_strikes(puzzle, 3, [part]))

    def test_lists_handed_in_stay_as_they_are(self):
        for puzzle in (ring(3), ring(4)):
            told, kept = choice_strikes(puzzle, 2), kept_choices(puzzle, 2)
            self.assertTrue(shows_choice_strikes(puzzle, 2, told))
            shows_kept_choices(puzzle, 2, kept)
            self.assertEqual((told, kept), (choice_strikes(puzzle, 2), kept_choices(puzzle, 2)))

    def test_of_any_value(self):
        for puzzle in (ring(3), Puzzle(Book(2, []), 0, []), Puzzle(Book(1, []), 2, [])):
            for value in [*otherwise([((), ("row", 0))]), [None], [[]], [()], [((), ())], [((), None)]]:
                for near in (2, 3):
                    self.check(puzzle, near, value)
        self.assertTrue(shows_kept_choices(near=2, value=[()], puzzle=Puzzle(Book(2, []), 0, [])))


class BadNearTest(unittest.TestCase):
    def test_bad_near(self):
        for puzzle, good in ((ring(3), (2, 3)), (Puzzle(Book(1, []), 2, []), (2, 3)), (Puzzle(Book(3, []), 2, []), (2,))):
            for near in [*odd_but(*good), *[near for near in (1, 4, -2) if near not in good]]:
                with self.subTest(near=near):
                    for function in FUNCTIONS:
                        self.assertEqual(raised(function, puzzle, near), (BadNear, {}))
                    for function in (shows_choice_strikes, shows_kept_choices):
                        for value in ([], None, [()], ODD):
                            self.assertEqual(raised(function, puzzle, near, value), (BadNear, {}))
            for near in good:
                self.assertIsNone(raised(kept_choices, puzzle, near))

    def test_at_most(self):
        puzzle = Puzzle(Book(2, [AT_MOST]), 3, [(0, (0, 1)), (0, (1, 2))])
        self.assertNotIn(((0, 1), (2, 0)), kept_choices(puzzle, 2))
        self.assertIn((((0, 1), (2, 0)), ("place", 1)), choice_strikes(puzzle, 2))


if __name__ == "__main__":
    unittest.main()
