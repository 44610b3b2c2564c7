"""Points 3, 4, 17, 21 and 22 for nearsettled.tables."""

import itertools
import unittest

from nearsettled.errors import BadArity, BadOrder, BadRow, BadSpots, BadWidth, NearError, NoList, Unlike
from nearsettled.operations import Operation, breaks
from nearsettled.tables import Table
from tests.helpers import ODD, odd_but, raised


def every_row(width, arity):
    return list(itertools.product(range(width), repeat=arity))


def sample_tables(width, arity):
    """Some tables of a width and an arity: without rows, with all, and others."""
    rows = every_row(width, arity)
    return [Table(width, arity, chosen) for chosen in ([], rows, rows[::2], rows[1::3], rows[:1], rows[-2:])]


SHAPES = [(width, arity) for width in (1, 2, 3) for arity in (1, 2, 3)]


class MakingTest(unittest.TestCase):
    def test_attributes_and_ascending_rows_without_doubles(self):
        table = Table(3, 2, [(2, 0), (0, 1), (2, 0), (0, 0), (0, 1)])
        self.assertEqual((table.width, table.arity), (3, 2))
        self.assertEqual(table.rows, [(0, 0), (0, 1), (2, 0)])
        self.assertEqual(len(table), 3)

    def test_rows_in_any_sequence(self):
        for shuffled in itertools.permutations([(0, 1), (1, 0), (1, 1)]):
            self.assertEqual(Table(2, 2, list(shuffled)).rows, [(0, 1), (1, 0), (1, 1)])

    def test_arguments_by_name(self):
        self.assertEqual(Table(rows=[(0,)], arity=1, width=1), Table(1, 1, [(0,)]))

    def test_all_shapes_without_and_with_all_rows(self):
        for width, arity in SHAPES:
            with self.subTest(width=width, arity=arity):
                self.assertEqual((Table(width, arity, []).rows, len(Table(width, arity, []))), ([], 0))
                rows = every_row(width, arity)
                self.assertEqual(Table(width, arity, rows[::-1] + rows).rows, rows)

    def test_bad_width(self):
        for width in odd_but(1, 2, 3):
            with self.subTest(width=width):
                self.assertEqual(raised(Table, width, 1, []), (BadWidth, {}))

    def test_bad_arity(self):
        for arity in odd_but(1, 2, 3):
            with self.subTest(arity=arity):
                self.assertEqual(raised(Table, 2, arity, []), (BadArity, {}))

    def test_no_list(self):
        for rows in [value for value in ODD if not isinstance(value, list)]:
            with self.subTest(rows=rows):
                self.assertEqual(raised(Table, 2, 1, rows), (NoList, {}))

    def test_bad_row_of_any_value(self):
        for width, arity, good in ((2, 1, (1,)), (1, 2, (0, 0)), (3, 3, (2, 0, 1)), (3, 2, (2, 2))):
            for row in odd_but(*every_row(width, arity)):
                with self.subTest(width=width, arity=arity, row=row):
                    found = raised(Table, width, arity, [good, good, row, good, None])
                    self.assertEqual(found, (BadRow, {"number": 2}))

    def test_bad_row_edges(self):
        bad = [(0, 2), (2, 0), (-1, 0), (True, 0), (0, False), (0,), (0, 1, 0), (), [0, 1], "01", (0, None),
               ((0,), 1), (0, "1")]
        for row in bad:
            with self.subTest(row=row):
                self.assertEqual(raised(Table, 2, 2, [row]), (BadRow, {"number": 0}))

    def test_which_error_comes_first(self):
        self.assertEqual(raised(Table, 4, 4, ()), (BadWidth, {}))
        self.assertEqual(raised(Table, True, True, [None]), (BadWidth, {}))
        self.assertEqual(raised(Table, 3, 0, None), (BadArity, {}))
        self.assertEqual(raised(Table, 3, False, [None]), (BadArity, {}))
        self.assertEqual(raised(Table, 3, 1, ((3,),)), (NoList, {}))
        self.assertEqual(raised(Table, 3, 1, [(0,), (3,), (4,)]), (BadRow, {"number": 1}))


class CopiesTest(unittest.TestCase):
    def test_rows_handed_in_can_be_changed(self):
        rows = [(0, 1), (1, 0)]
        table = Table(2, 2, rows)
        rows.append((1, 1))
        rows[0] = (0, 0)
        self.assertEqual(table.rows, [(0, 1), (1, 0)])

    def test_rows_handed_in_stay_as_they_are(self):
        rows = [(1, 0), (0, 1), (1, 0)]
        Table(2, 2, rows)
        self.assertEqual(rows, [(1, 0), (0, 1), (1, 0)])

    def test_rows_told_can_be_changed(self):
        table = Table(2, 2, [(0, 1), (1, 0)])
        told = table.rows
        told.append((1, 1))
        told[0] = None
        self.assertEqual(table.rows, [(0, 1), (1, 0)])
        self.assertEqual(len(table), 2)
        self.assertIsNot(table.rows, table.rows)

    def test_order_handed_in_is_left_as_it_is(self):
        order = [1, 2, 0]
        renamed = Table(3, 1, [(0,)]).renamed(order)
        self.assertEqual(order, [1, 2, 0])
        order[0] = 0
        self.assertEqual(renamed.rows, [(1,)])

    def test_made_tables_leave_the_others_as_they_are(self):
        one, other = Table(2, 1, [(0,)]), Table(2, 1, [(1,)])
        for made in (one & other, one * other, one.seen((0, 0)), one.glued(0, 0), one.renamed([1, 0])):
            made.rows.append((0,))
        self.assertEqual((one.rows, other.rows), ([(0,)], [(1,)]))

    def test_errors_change_nothing(self):
        table = Table(2, 2, [(0, 1)])
        for call in (lambda: table & None, lambda: table * table, lambda: table.seen(()), lambda: table.glued(0, 2),
                     lambda: table.renamed([0, 0])):
            self.assertRaises(NearError, call)
        self.assertEqual(table, Table(2, 2, [(0, 1)]))


class AskingTest(unittest.TestCase):
    def test_contains_just_the_rows(self):
        table = Table(2, 2, [(0, 1), (1, 1)])
        self.assertEqual([row in table for row in every_row(2, 2)], [False, True, False, True])

    def test_contains_of_any_value(self):
        table = Table.full(2, 1)
        for value in ODD:
            with self.subTest(value=value):
                self.assertIs(value in table, value == (0,) and not isinstance(value[0], bool))
        self.assertNotIn((True, 1), Table.full(2, 2))
        self.assertNotIn((0, False), Table.full(2, 2))
        self.assertNotIn([0, 1], Table.full(2, 2))
        self.assertNotIn((0, 1, 0), Table.full(2, 2))
        self.assertNotIn(Table.full(2, 2), Table.full(2, 2))
        self.assertNotIn((0,), Table(2, 1, []))

    def test_equality(self):
        table = Table(2, 2, [(0, 1), (1, 0)])
        self.assertTrue(table == Table(2, 2, [(1, 0), (0, 1), (0, 1)]))
        self.assertFalse(table != Table(2, 2, [(1, 0), (0, 1)]))
        self.assertFalse(table == Table(3, 2, [(0, 1), (1, 0)]))
        self.assertFalse(table == Table(2, 2, [(0, 1)]))
        self.assertFalse(Table(2, 1, []) == Table(2, 2, []))
        self.assertTrue(table != Table(2, 2, []))

    def test_any_other_object_is_unequal(self):
        table = Table(2, 1, [(0,)])
        for value in [*ODD, table.rows, {(0,): True}, object(), Operation(2, 1, [0, 0]), Table]:
            with self.subTest(value=value):
                self.assertIs(table == value, False)
                self.assertIs(table != value, True)
                self.assertIs(value == table, False)


class MadeOfOthersTest(unittest.TestCase):
    def test_and(self):
        for width, arity in SHAPES:
            for one, other in itertools.product(sample_tables(width, arity), repeat=2):
                both = one & other
                self.assertEqual((both.width, both.arity), (width, arity))
                self.assertEqual(both.rows, [row for row in every_row(width, arity) if row in one and row in other])

    def test_and_unlike(self):
        table = Table(2, 2, [(0, 1)])
        for other in [*ODD, Table(3, 2, []), Table(2, 1, []), Table(1, 3, []), Operation(2, 2, [0] * 4), object()]:
            with self.subTest(other=other):
                self.assertEqual(raised(lambda: table & other), (Unlike, {}))

    def test_times(self):
        for width in (1, 2, 3):
            for first, second in ((1, 1), (1, 2), (2, 1)):
                for one, other in itertools.product(sample_tables(width, first), sample_tables(width, second)):
                    made = one * other
                    self.assertEqual((made.width, made.arity), (width, first + second))
                    self.assertEqual(made.rows, [row for row in every_row(width, first + second)
                                                 if row[:first] in one and row[first:] in other])

    def test_times_three_in_a_row(self):
        table = Table.only(3, 2) * Table.only(3, 0) * Table.only(3, 1)
        self.assertEqual(table.rows, [(2, 0, 1)])

    def test_times_unlike(self):
        table = Table(2, 1, [(0,)])
        for other in [*ODD, Table(3, 1, []), Table(2, 3, []), Operation(2, 1, [0, 0]), object()]:
            with self.subTest(other=other):
                self.assertEqual(raised(lambda: table * other), (Unlike, {}))
        for first, second in ((2, 2), (3, 1), (3, 3), (1, 3)):
            self.assertEqual(raised(lambda: Table(1, first, []) * Table(1, second, [])), (Unlike, {}))

    def test_seen(self):
        for width, arity in SHAPES:
            for table in sample_tables(width, arity):
                for length in (1, 2, 3):
                    for spots in itertools.product(range(arity), repeat=length):
                        seen = table.seen(spots)
                        self.assertEqual((seen.width, seen.arity), (width, length))
                        self.assertEqual(seen.rows, sorted({tuple(row[s] for s in spots) for row in table.rows}))

    def test_seen_bad_spots(self):
        for arity in (1, 2, 3):
            good = [spots for length in (1, 2, 3) for spots in itertools.product(range(arity), repeat=length)]
            odd = odd_but(*good) + [(arity,), (0, arity), (-1,), (0, -1), (True,), (0, False), (0, 0, 0, 0), (0, "0")]
            for spots in odd:
                with self.subTest(arity=arity, spots=spots):
                    self.assertEqual(raised(Table(2, arity, []).seen, spots), (BadSpots, {}))
        self.assertEqual(Table(2, 2, [(0, 1)]).seen(spots=(1,)).rows, [(1,)])

    def test_glued(self):
        for width, arity in SHAPES:
            for table in sample_tables(width, arity):
                for one, other in itertools.product(range(arity), repeat=2):
                    glued = table.glued(one, other)
                    self.assertEqual((glued.width, glued.arity), (width, arity))
                    self.assertEqual(glued.rows, [row for row in table.rows if row[one] == row[other]])

    def test_glued_bad_spots(self):
        table = Table(3, 2, [(0, 0)])
        for value in odd_but(0, 1):
            with self.subTest(value=value):
                self.assertEqual(raised(table.glued, value, 0), (BadSpots, {}))
                self.assertEqual(raised(table.glued, 1, value), (BadSpots, {}))
                self.assertEqual(raised(table.glued, value, value), (BadSpots, {}))
        self.assertEqual(table.glued(other=1, one=0).rows, [(0, 0)])

    def test_renamed(self):
        for width, arity in SHAPES:
            for table in sample_tables(width, arity):
                for order in itertools.permutations(range(width)):
                    renamed = table.renamed(list(order))
                    self.assertEqual((renamed.width, renamed.arity), (width, arity))
                    self.assertEqual(renamed.rows, sorted(tuple(order[v] for v in row) for row in table.rows))

    def test_renamed_goes_this_way_and_not_back(self):
        self.assertEqual(Table(3, 2, [(0, 1)]).renamed(order=[1, 2, 0]).rows, [(1, 2)])

    def test_renamed_bad_order(self):
        for width, good in ((1, [0]), (2, [0, 1]), (3, [0, 1, 2])):
            odd = odd_but(good) + [tuple(good), good[:-1], good + [width], good + [0], [width] * width, [False, True],
                                   [-1] * width, good[:-1] + [None], good[:-1] + [[0]], good[:-1] + [str(width)]]
            for order in odd:
                with self.subTest(width=width, order=order):
                    self.assertEqual(raised(Table(width, 1, []).renamed, order), (BadOrder, {}))
        self.assertEqual(raised(Table(3, 1, []).renamed, [0, 1, 1]), (BadOrder, {}))
        self.assertEqual(raised(Table(3, 1, []).renamed, [0, True, 2]), (BadOrder, {}))


class StaticTest(unittest.TestCase):
    def test_full(self):
        for width, arity in SHAPES:
            full = Table.full(width, arity)
            self.assertEqual((full.width, full.arity, full.rows), (width, arity, every_row(width, arity)))
        self.assertEqual(Table.full(arity=1, width=2).rows, [(0,), (1,)])

    def test_full_errors(self):
        for value in odd_but(1, 2, 3):
            self.assertEqual(raised(Table.full, value, value), (BadWidth, {}))
            self.assertEqual(raised(Table.full, 2, value), (BadArity, {}))

    def test_equal(self):
        for width in (1, 2, 3):
            equal = Table.equal(width=width)
            self.assertEqual((equal.width, equal.arity), (width, 2))
            self.assertEqual(equal.rows, [(value, value) for value in range(width)])

    def test_equal_errors(self):
        for value in odd_but(1, 2, 3):
            self.assertEqual(raised(Table.equal, value), (BadWidth, {}))

    def test_only(self):
        for width in (1, 2, 3):
            for value in range(width):
                only = Table.only(width, value)
                self.assertEqual((only.width, only.arity, only.rows), (width, 1, [(value,)]))
        self.assertEqual(Table.only(value=1, width=2).rows, [(1,)])

    def test_only_errors(self):
        for value in odd_but(0, 1):
            self.assertEqual(raised(Table.only, 2, value), (BadRow, {"number": 0}))
        for width in odd_but(1, 2, 3):
            self.assertEqual(raised(Table.only, width, -1), (BadWidth, {}))


class KeptTablesTest(unittest.TestCase):
    """Point 17: what keeps tables keeps those made of them, and renamed it keeps the renamed ones."""

    def operations(self, width):
        least = Operation.by(width, 2, min)
        middle = Operation.by(width, 3, lambda some: sorted(some)[1])
        return [least, middle, Operation(width, 1, [width - 1] * width), Operation.taking(width, 3, 1)]

    def test_made_tables_are_kept(self):
        for width in (1, 2, 3):
            for operation in self.operations(width):
                kept = [table for arity in (1, 2, 3) for table in sample_tables(width, arity)
                        if breaks(operation, table) is None]
                self.assertGreaterEqual(len(kept), 6)
                for made in self.made_of(kept):
                    self.assertIsNone(breaks(operation, made))

    def made_of(self, tables):
        width = tables[0].width
        made = [Table.full(width, arity) for arity in (1, 2, 3)] + [Table.equal(width)]
        for one, other in itertools.product(tables, repeat=2):
            if one.arity == other.arity:
                made.append(one & other)
            if one.arity + other.arity <= 3:
                made.append(one * other)
        for table in tables:
            for length in (1, 2, 3):
                made += [table.seen(spots) for spots in itertools.product(range(table.arity), repeat=length)]
            made += [table.glued(*pair) for pair in itertools.product(range(table.arity), repeat=2)]
        return made

    def test_renamed_keeps_the_renamed(self):
        for width in (1, 2, 3):
            for operation in self.operations(width):
                for table in [table for arity in (1, 2, 3) for table in sample_tables(width, arity)]:
                    for order in itertools.permutations(range(width)):
                        renamed = breaks(operation.renamed(list(order)), table.renamed(list(order)))
                        self.assertEqual(renamed is None, breaks(operation, table) is None)


if __name__ == "__main__":
    unittest.main()
