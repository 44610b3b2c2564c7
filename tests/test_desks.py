"""Points 3, 19, 21 and 22 for nearsettled.desks."""

import random
import unittest

from nearsettled.desks import Desk
from nearsettled.errors import BadPlaces, BadUse, NearError, NoFold, NoMark, NoNumber, Unlike
from nearsettled.folds import answered, Fold, folded
from nearsettled.places import emptied, kept_values
from nearsettled.puzzles import Book, Puzzle
from nearsettled.tables import Table
from tests.helpers import ODD, odd_but, raised, spoil
from tests.looks import plain_emptied, plain_kept
from tests.samples import AT_MOST, COLOURS, EMPTY, EVEN, LEAST, small_book, some_book, UNLIKE

ZERO, ONE = Table.only(2, 0), Table.only(2, 1)
# No rows of a puzzle of two places over a book of a table of two and a table of one.
WRONG_ROWS = [
    (0, (0,)), (0, (0, 2)), (0, (-1, 0)), (2, (0, 1)), (-1, (0, 1)), (1, (0, 1)), (0, [0, 1]), [0, (0, 1)], (0, (0, True)),
    (False, (0, 1)), (0,), (0, (0, 1), 0), (0, 0), None, "row", (None, None), (0, ()), (0, ((0,), 1)), ("0", (0, 1)),
]


def told(book, places, rows):
    """The puzzle of the rows of a dict by their numbers."""
    return Puzzle(book, places, [rows[number] for number in sorted(rows)])


class PlainDesk:
    """A desk that looks anew at a new puzzle after each deed."""

    def __init__(self, book, places):
        self.book, self.places = book, places
        self.rows, self.given, self.marks, self.changed = {}, 0, [], ([], [])
        self.kept = self.look()

    def look(self):
        return plain_kept(told(self.book, self.places, self.rows))

    def done(self):
        """Note what a deed changed."""
        before, self.kept = self.kept, self.look()
        pairs = [{(place, value) for place, some in enumerate(kept) for value in some} for kept in (before, self.kept)]
        self.changed = (sorted(pairs[0] - pairs[1]), sorted(pairs[1] - pairs[0]))

    def copy(self):
        made = PlainDesk(self.book, self.places)
        made.rows, made.given, made.marks = dict(self.rows), self.given, [dict(rows) for rows in self.marks]
        made.kept, made.changed = self.kept, self.changed
        return made


class DeedsTest(unittest.TestCase):
    def check(self, desk, plain):
        puzzle = told(plain.book, plain.places, plain.rows)
        self.assertEqual(desk.numbers, sorted(plain.rows))
        self.assertEqual((desk.puzzle, desk.places, len(desk)), (puzzle, plain.places, len(plain.rows)))
        self.assertIs(desk.book, plain.book)
        self.assertEqual([desk[number] for number in desk.numbers], puzzle.rows)
        self.assertEqual([desk.kept(place) for place in range(plain.places)], plain.kept)
        self.assertEqual(desk.changed, plain.changed)
        for number in range(-1, plain.given + 2):
            self.assertEqual(number in desk, number in plain.rows)
        self.check_paper(desk, plain, puzzle)

    def check_paper(self, desk, plain, puzzle):
        word, found = desk.paper()
        self.assertEqual(word, "yes" if () in plain.kept else "no")
        if word == "no":
            self.assertEqual(found, plain.kept)
        else:
            at = {number: at for at, number in enumerate(desk.numbers)}
            strikes = [(place, value, at[number], position) for place, value, number, position in found]
            self.assertTrue(plain_emptied(puzzle, strikes))

    def check_told_by(self, desk, fold, puzzle):
        word, found = desk.told_by(fold)
        right = answered(fold, puzzle)
        self.assertEqual(word, right[0])
        if word == "yes":
            self.assertEqual(found, right[1])
        else:
            self.assertTrue(plain_emptied(puzzle, found))

    def some_row(self, source, book, places):
        table = source.randrange(len(book))
        return (table, tuple(source.randrange(places) for _ in range(book[table].arity)))

    def do_some(self, source, desk, plain):
        """A deed of both desks; it may be one that is refused."""
        deed = source.choice(["put"] * 5 + ["withdraw", "exchange"] * 2 + ["mark", "back", "tried", "wrong"])
        number = source.choice(sorted(plain.rows)) if plain.rows else None
        if deed == "put":
            row = self.some_row(source, plain.book, plain.places)
            self.assertEqual(desk.put(*row), plain.given)
            plain.rows[plain.given] = row
            plain.given += 1
            plain.done()
        elif deed == "withdraw" and number is not None:
            self.assertIsNone(desk.withdraw(number))
            del plain.rows[number]
            plain.done()
        elif deed == "exchange" and number is not None:
            row = self.some_row(source, plain.book, plain.places)
            desk[number] = row
            plain.rows[number] = row
            plain.done()
        elif deed == "mark":
            self.assertEqual(desk.mark(), len(plain.marks))
            plain.marks.append(dict(plain.rows))
        elif deed == "back" and plain.marks:
            at = source.randrange(len(plain.marks))
            self.assertIsNone(desk.back_to(at))
            plain.marks = plain.marks[:at + 1]
            plain.rows = dict(plain.marks[at])
            plain.done()
        elif deed == "tried":
            rows = [self.some_row(source, plain.book, plain.places) for _ in range(source.randrange(4))]
            more = dict(plain.rows)
            more.update(enumerate(rows, plain.given))
            self.assertEqual(desk.tried(rows), plain_kept(told(plain.book, plain.places, more)))
        elif deed == "wrong":
            self.do_wrong(desk, plain)

    def do_wrong(self, desk, plain):
        """Deeds that are refused."""
        self.assertEqual(raised(desk.put, len(plain.book), (0,)), (BadUse, {"number": plain.given}))
        self.assertEqual(raised(desk.withdraw, plain.given), (NoNumber, {"number": plain.given}))
        self.assertEqual(raised(desk.back_to, len(plain.marks)), (NoMark, {"number": len(plain.marks)}))
        self.assertEqual(raised(desk.tried, [None]), (BadUse, {"number": 0}))
        for number in plain.rows:
            self.assertEqual(raised(desk.__setitem__, number, (0, ())), (BadUse, {"number": number}))

    def test_many_drawn_deeds(self):
        source = random.Random(1)
        for turn in range(60):
            book = (small_book if turn % 3 else some_book)(source, source.randint(1, 3))
            if len(book) > 0:
                plain = PlainDesk(book, source.randint(1, 5))
                desks = [(Desk(book, plain.places), plain)]
                fold = folded(book)
                for _ in range(40):
                    desk, plain = source.choice(desks)
                    self.do_some(source, desk, plain)
                    if source.random() < 0.05:
                        desks.append((desk.copy(), plain.copy()))
                    for one in desks:
                        self.check(*one)
                        if fold[0] == "yes":
                            self.check_told_by(one[0], fold[1], told(book, plain.places, one[1].rows))

    def test_a_desk_with_many_rows(self):
        source = random.Random(2)
        book = Book(3, [COLOURS, LEAST, Table.only(3, 1), Table(3, 1, [(0,), (2,)])])
        desk = Desk(book, 60)
        rows = [self.some_row(source, book, 60) for _ in range(1500)]
        self.assertEqual([desk.put(*row) for row in rows], list(range(1500)))
        mark = desk.mark()
        self.assertEqual(desk.puzzle, Puzzle(book, 60, rows))
        for number in source.sample(range(1500), 1300):
            desk.withdraw(number)
        puzzle = desk.puzzle
        self.assertEqual((len(puzzle), desk.paper()[0]), (200, emptied(puzzle)[0]))
        self.assertEqual([desk.kept(place) for place in range(60)], kept_values(puzzle))
        for number in desk.numbers:
            desk[number] = source.choice(rows)
        self.assertEqual([desk.kept(place) for place in range(60)], kept_values(desk.puzzle))
        desk.back_to(mark)
        self.assertEqual(desk.puzzle, Puzzle(book, 60, rows))
        self.assertEqual([desk.kept(place) for place in range(60)], kept_values(desk.puzzle))


class DeskTest(unittest.TestCase):
    def setUp(self):
        self.book = Book(2, [AT_MOST, ZERO, ONE, UNLIKE])

    def test_without_rows(self):
        for places in (0, 1, 60):
            desk = Desk(self.book, places)
            self.assertEqual((desk.numbers, len(desk), desk.changed, desk.places), ([], 0, ([], []), places))
            self.assertEqual(desk.puzzle, Puzzle(self.book, places, []))
            self.assertEqual(desk.paper(), ("no", [(0, 1)] * places))
            self.assertEqual(desk.tried([]), [(0, 1)] * places)
            self.assertEqual(raised(desk.back_to, 0), (NoMark, {"number": 0}))
            self.assertEqual(raised(lambda: desk[0]), (NoNumber, {"number": 0}))
        desk = Desk(places=2, book=Book(3, []))
        self.assertEqual(desk.mark(), 0)
        self.assertIsNone(desk.back_to(number=0))
        self.assertEqual(desk.told_by(fold=Fold(3, [0, 0, 2, 0, 1, 1, 2])), ("yes", (2, 2)))

    def test_bad_places(self):
        for places in [*odd_but(0, 1, 2, 3, 4), 61, -1]:
            with self.subTest(places=places):
                self.assertEqual(raised(Desk, self.book, places), (BadPlaces, {}))

    def test_puts_and_changes(self):
        desk = Desk(self.book, 3)
        self.assertEqual(desk.put(table=0, spots=(0, 1)), 0)
        self.assertEqual(desk.changed, ([], []))
        self.assertEqual(desk.put(0, (1, 2)), 1)
        self.assertEqual(desk.put(1, (2,)), 2)
        self.assertEqual(desk.changed, ([(0, 1), (1, 1), (2, 1)], []))
        self.assertEqual(desk.put(2, (0,)), 3)
        self.assertEqual(desk.changed, ([(0, 0), (1, 0), (2, 0)], []))
        self.assertEqual([desk.kept(place=place) for place in range(3)], [(), (), ()])
        self.assertIsNone(desk.withdraw(number=1))
        self.assertEqual(desk.changed, ([], [(0, 1), (1, 1), (2, 0)]))
        self.assertEqual((desk.numbers, desk.kept(2)), ([0, 2, 3], (0,)))
        desk[2] = (2, (2,))
        self.assertEqual((desk.changed, desk[2]), (([(2, 0)], [(2, 1)]), (2, (2,))))
        self.assertEqual(desk.put(1, (2,)), 4)

    def test_marks_within_one_another(self):
        desk = Desk(self.book, 2)
        self.assertEqual([desk.mark(), desk.put(0, (0, 1)), desk.mark(), desk.put(1, (1,)), desk.mark(), desk.mark()],
                         [0, 0, 1, 1, 2, 3])
        desk.withdraw(0)
        self.assertIsNone(desk.back_to(2))
        self.assertEqual((desk.numbers, desk.changed), ([0, 1], ([(0, 1)], [])))
        self.assertEqual(raised(desk.back_to, 3), (NoMark, {"number": 3}))
        self.assertEqual(desk.mark(), 3)
        desk.back_to(1)
        self.assertEqual((desk.numbers, desk.changed), ([0], ([], [(0, 1), (1, 1)])))
        self.assertEqual(desk.mark(), 2)
        # Numbers of rows are not given again.
        self.assertEqual(desk.put(1, (0,)), 2)
        desk.back_to(0)
        desk.back_to(0)
        self.assertEqual((desk.numbers, desk.changed, desk.put(2, (0,))), ([], ([], []), 3))
        self.assertEqual(raised(lambda: desk[0]), (NoNumber, {"number": 0}))

    def test_what_was_exchanged_comes_back(self):
        desk = Desk(self.book, 2)
        desk.put(0, (0, 1))
        desk.put(1, (1,))
        desk.mark()
        desk[0] = (3, (0, 1))
        self.assertEqual([desk.kept(0), desk.kept(1)], [(1,), (0,)])
        desk.withdraw(1)
        desk.back_to(0)
        self.assertEqual(([desk[0], desk[1]], desk.kept(0)), ([(0, (0, 1)), (1, (1,))], (0,)))

    def test_mark_changes_nothing(self):
        desk = Desk(self.book, 2)
        desk.put(1, (1,))
        desk.mark()
        self.assertEqual(desk.changed, ([(1, 1)], []))
        desk.tried([(2, (0,))])
        self.assertEqual(desk.changed, ([(1, 1)], []))

    def test_a_place_that_stands_twice(self):
        desk = Desk(self.book, 2)
        desk.put(3, (0, 0))
        self.assertEqual(desk.kept(0), (0, 1))
        desk.put(1, (0,))
        self.assertEqual((desk.kept(0), desk.paper()[0]), ((), "yes"))
        desk.withdraw(0)
        self.assertEqual(desk.kept(0), (0,))

    def test_contains(self):
        desk = Desk(self.book, 2)
        desk.put(1, (0,))
        desk.put(1, (1,))
        desk.withdraw(0)
        for value in [*ODD, self.book, desk, [1], {}]:
            self.assertIs(value in desk, type(value) is int and value == 1)

    def test_no_number(self):
        desk = Desk(self.book, 2)
        desk.put(1, (0,))
        desk.put(1, (1,))
        desk.withdraw(0)
        for number in [*odd_but(1), -1]:
            with self.subTest(number=number):
                wanted = (NoNumber, {"number": number})
                self.assertEqual(raised(lambda: desk[number]), wanted)
                self.assertEqual(raised(desk.withdraw, number), wanted)
                for row in ((1, (0,)), None, (9, 9)):
                    self.assertEqual(raised(desk.__setitem__, number, row), wanted)
        self.assertEqual((desk.numbers, desk.changed), ([1], ([], [(0, 1)])))

    def test_no_mark(self):
        desk = Desk(self.book, 2)
        desk.mark()
        desk.mark()
        for number in [*odd_but(0, 1), -1]:
            with self.subTest(number=number):
                self.assertEqual(raised(desk.back_to, number), (NoMark, {"number": number}))
        desk.back_to(0)
        self.assertEqual(raised(desk.back_to, 1), (NoMark, {"number": 1}))

    def test_bad_use(self):
        desk = Desk(Book(2, [AT_MOST, ZERO]), 2)
        desk.put(0, (0, 1))
        desk.put(1, (1,))
        desk.withdraw(1)
        before = (desk.numbers, desk.changed, desk.paper())
        for row in WRONG_ROWS:
            with self.subTest(row=row):
                if isinstance(row, tuple) and len(row) == 2:
                    self.assertEqual(raised(desk.put, *row), (BadUse, {"number": 2}))
                self.assertEqual(raised(desk.__setitem__, 0, row), (BadUse, {"number": 0}))
                self.assertEqual(raised(desk.tried, [(0, (1, 0)), row, None]), (BadUse, {"number": 1}))
        for value in ODD:
            self.assertEqual(raised(desk.put, value, value), (BadUse, {"number": 2}))
            self.assertEqual(raised(desk.__setitem__, 0, value), (BadUse, {"number": 0}))
            if not isinstance(value, list):
                self.assertEqual(raised(desk.tried, value), (BadUse, {"number": 0}))
            self.assertEqual(raised(desk.tried, [value]), (BadUse, {"number": 0}))
        for value in odd_but(0):
            self.assertEqual(raised(desk.put, value, (0, 1)), (BadUse, {"number": 2}))
        for value in odd_but((1, 1)):
            self.assertEqual(raised(desk.put, 0, value), (BadUse, {"number": 2}))
        self.assertEqual((desk.numbers, desk.changed, desk.paper()), before)
        self.assertEqual(desk.put(1, (0,)), 2)

    def test_kept_bad_places(self):
        for places in (0, 2):
            desk = Desk(self.book, places)
            for place in [*odd_but(*range(places)), places, -1]:
                self.assertEqual(raised(desk.kept, place), (BadPlaces, {}))

    def test_told_by_errors(self):
        desk = Desk(Book(2, [AT_MOST, EVEN, UNLIKE]), 2)
        self.assertEqual(raised(desk.told_by, Fold(3, [0] * 7)), (Unlike, {}))
        self.assertEqual(raised(desk.told_by, Fold(2, [0, 0, 0])), (NoFold, {"number": 2}))
        self.assertEqual(raised(desk.told_by, Fold(2, [1, 0, 0])), (NoFold, {"number": 0}))

    def test_told_by_numbers_rows_as_the_puzzle_does(self):
        desk = Desk(Book(2, [ZERO, EMPTY]), 2)
        desk.put(0, (0,))
        desk.put(1, (0, 1))
        desk.withdraw(0)
        word, strikes = desk.told_by(Fold(2, [0, 0, 0]))
        self.assertEqual((word, plain_emptied(desk.puzzle, strikes)), ("no", True))
        self.assertEqual({number for _, _, number, _ in desk.paper()[1]}, {1})

    def test_is_not_iterated_over(self):
        with self.assertRaises(TypeError):
            list(Desk(self.book, 2))


class CopiesTest(unittest.TestCase):
    def setUp(self):
        self.desk = Desk(Book(2, [AT_MOST, ZERO]), 2)
        self.desk.put(0, (0, 1))
        self.desk.mark()
        self.desk.put(1, (1,))

    def state(self, desk):
        return (desk.numbers, desk.puzzle, desk.changed, desk.paper(), [desk.kept(place) for place in range(2)])

    def test_lists_told_can_be_changed(self):
        before = self.state(self.desk)
        spoil(self.state(self.desk)[2:])
        self.desk.numbers.clear()
        self.desk.puzzle.rows.clear()
        self.desk.tried([]).clear()
        self.desk.paper()[1].clear()
        self.assertEqual(self.state(self.desk), before)

    def test_lists_handed_in_can_be_changed(self):
        rows = [(1, (0,)), (0, (1, 0))]
        self.assertEqual(self.desk.tried(rows=rows), [(0,), (0,)])
        self.assertEqual(rows, [(1, (0,)), (0, (1, 0))])
        self.assertEqual(self.desk.numbers, [0, 1])

    def test_puzzles_told_stay_as_they_are(self):
        puzzle = self.desk.puzzle
        self.desk.withdraw(0)
        self.desk[1] = (1, (0,))
        self.assertEqual(puzzle.rows, [(0, (0, 1)), (1, (1,))])
        self.assertIsNot(self.desk.puzzle, self.desk.puzzle)

    def test_copies_are_independent(self):
        before = self.state(self.desk)
        made = self.desk.copy()
        self.assertEqual(self.state(made), before)
        made.withdraw(0)
        made.mark()
        self.assertEqual(made.put(1, (0,)), 2)
        self.assertEqual(self.state(self.desk), before)
        self.assertEqual(raised(self.desk.back_to, 1), (NoMark, {"number": 1}))
        self.assertEqual(self.desk.put(1, (0,)), 2)
        self.desk.back_to(0)
        self.assertEqual((made.numbers, self.desk.numbers), ([1, 2], [0]))
        made.back_to(0)
        self.assertEqual(made.numbers, [0])

    def test_marks_of_a_copy_stand(self):
        made = self.desk.copy()
        self.desk.back_to(0)
        self.desk[0] = (0, (1, 0))
        made.back_to(0)
        self.assertEqual((made[0], self.desk[0]), ((0, (0, 1)), (0, (1, 0))))

    def test_errors_change_nothing(self):
        before = self.state(self.desk)
        for call in (lambda: self.desk.put(7, (0,)), lambda: self.desk.withdraw(7), lambda: self.desk[7],
                     lambda: self.desk.back_to(7), lambda: self.desk.kept(7), lambda: self.desk.tried([(1, (0,)), None]),
                     lambda: self.desk.told_by(Fold(3, [0] * 7)), lambda: self.desk.__setitem__(0, (1, (7,)))):
            self.assertRaises(NearError, call)
        self.assertEqual(self.state(self.desk), before)

    def test_properties_are_not_set(self):
        before, book = self.state(self.desk), self.desk.book
        for name in ("book", "places", "numbers", "puzzle", "changed"):
            for value in (None, 1, self.desk.book, Puzzle(self.desk.book, 1, [])):
                with self.assertRaises(AttributeError):
                    setattr(self.desk, name, value)
        self.assertEqual((self.state(self.desk), self.desk.places), (before, 2))
        self.assertIs(self.desk.book, book)


if __name__ == "__main__":
    unittest.main()
