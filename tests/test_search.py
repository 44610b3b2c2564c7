"""What the search of nearsettled builds on: bits for values, an order of places, a place at which to split."""

import itertools
import unittest

from nearsettled.apart import apart_order
from nearsettled.guide import place_to_split
from nearsettled.looking import all_bits, bits_of, is_one, Net, values_of
from nearsettled.places import emptied
from nearsettled.puzzles import Book, Puzzle, shows_none, solved
from nearsettled.tables import Table
from tests.samples import ring, some_puzzles


def deepest(near, order):
    """How many places at most follow on one another, if each in turn is taken out of its group."""
    most = 0
    left = list(order)
    while left:
        group = [left[0]]
        for place in group:
            group += [other for other in left if other in near[place] and other not in group]
        inner = [place for place in order if place in group]
        most = max(most, 1 + deepest({place: near[place] - {inner[0]} for place in inner[1:]}, inner[1:]))
        left = [place for place in left if place not in group]
    return most


def neighbours(rows, places):
    near = {place: set() for place in range(places)}
    for _, spots in rows:
        for one, other in itertools.permutations(spots, 2):
            near[one].add(other)
    return near


class BitsTest(unittest.TestCase):
    def test_bits_and_values(self):
        for width in (1, 2, 3):
            for many in range(width + 1):
                for some in itertools.combinations(range(width), many):
                    self.assertEqual(values_of(bits_of(some), width), some)
                    self.assertIs(is_one(bits_of(some)), many == 1)
            self.assertEqual(all_bits(width), bits_of(range(width)))


class ApartTest(unittest.TestCase):
    def check(self, rows, places, most):
        order, depth = apart_order(rows, places)
        self.assertEqual(sorted(order), list(range(places)))
        self.assertLessEqual(deepest(neighbours(rows, places), order), depth)
        self.assertLessEqual(depth, most)

    def test_all_shapes(self):
        for puzzle, _ in some_puzzles(1, 200, most_places=9, most_rows=12):
            self.check(puzzle.rows, puzzle.places, puzzle.places)

    def test_puzzles_that_fall_apart(self):
        self.check([], 0, 0)
        self.check([], 60, 1)
        self.check(ring(60).rows, 60, 8)
        self.check([(0, (place, place + 1)) for place in range(59)], 60, 7)
        self.check([(0, (at, (at + 1) % 60, (at + 2) % 60)) for at in range(60)], 60, 14)
        steps = [(0, (at, at + 1)) for at in range(60) if at % 10 != 9] + [(0, (at, at + 10)) for at in range(50)]
        self.check(steps, 60, 18)

    def test_puzzles_that_do_not(self):
        rows = [(0, pair) for pair in itertools.combinations(range(20), 2)]
        self.assertEqual(apart_order(rows, 20), (list(range(20)), 20))


class GuideTest(unittest.TestCase):
    def test_a_place_that_is_not_chosen(self):
        many = 0
        for puzzle, _ in some_puzzles(3, 300, most_rows=9):
            if emptied(puzzle)[0] == "yes":
                net = Net(puzzle)
                place = place_to_split(net, [None] * puzzle.places, [all_bits(puzzle.book.width)] * puzzle.places)
                self.assertIn(place, range(puzzle.places))
                self.assertNotEqual(net.uses_at[place], [])
                many += 1
        self.assertGreater(many, 60)

    def test_a_chosen_value_that_is_struck_at_once(self):
        puzzle = Puzzle(Book(2, [Table(2, 3, [(1, 0, 0), (1, 1, 1)])]), 3, [(0, (0, 1, 2))])
        self.assertIn(place_to_split(Net(puzzle), [0, None, None], [1, 3, 3]), [1, 2])
        self.assertTrue(shows_none(puzzle, ((0, 0),), solved(puzzle, choice=((0, 0),))[1]))


if __name__ == "__main__":
    unittest.main()
