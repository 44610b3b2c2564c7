"""Points 3, 4, 14 (its first sentence), 17, 21 and 22 for nearsettled.operations."""

import inspect
import itertools
import random
import unittest

from nearsettled.errors import (
    BadArguments, BadArity, BadCell, BadLength, BadOrder, BadSpots, BadWidth, NoList, Unlike)
from nearsettled.operations import all_tuples, breaks, Operation
from nearsettled.tables import Table
from tests.helpers import ODD, odd_but, raised


def tuples(width, length):
    return list(itertools.product(range(width), repeat=length))


def some_operations(width, arity, many, seed):
    """Operations with cells that look drawn, the same in each run."""
    drawn = random.Random(seed)
    size = width ** arity
    return [Operation(width, arity, [drawn.randrange(width) for _ in range(size)]) for _ in range(many)]


SHAPES = [(width, arity) for width in (1, 2, 3) for arity in (1, 2, 3, 4)]


class AllTuplesTest(unittest.TestCase):
    def test_all_ascending(self):
        for width in (1, 2, 3):
            for length in range(6):
                self.assertEqual(list(all_tuples(width, length)), tuples(width, length))

    def test_by_name_and_of_length_none(self):
        self.assertEqual(list(all_tuples(length=0, width=3)), [()])

    def test_is_a_generator(self):
        self.assertTrue(inspect.isgenerator(all_tuples(2, 2)))

    def test_told_one_by_one(self):
        told = all_tuples(3, 60)
        self.assertEqual([next(told) for _ in range(4)], [(0,) * 59 + (0,), (0,) * 59 + (1,), (0,) * 59 + (2,),
                                                          (0,) * 58 + (1, 0)])
        self.assertEqual(len(next(all_tuples(2, 3000))), 3000)

    def test_without_values(self):
        self.assertEqual([list(all_tuples(0, 0)), list(all_tuples(0, 2))], [[()], []])


class MakingTest(unittest.TestCase):
    def test_attributes_and_cells(self):
        operation = Operation(3, 1, [2, 0, 1])
        self.assertEqual((operation.width, operation.arity, operation.cells), (3, 1, [2, 0, 1]))

    def test_by_name(self):
        self.assertEqual(Operation(cells=[0, 1], arity=1, width=2), Operation(2, 1, [0, 1]))

    def test_cells_stand_in_ascending_order_of_the_tuples(self):
        for width, arity in SHAPES:
            for operation in some_operations(width, arity, 3, 1):
                with self.subTest(width=width, arity=arity):
                    self.assertEqual([operation(some) for some in tuples(width, arity)], operation.cells)

    def test_bad_width(self):
        for width in odd_but(1, 2, 3):
            with self.subTest(width=width):
                self.assertEqual(raised(Operation, width, 1, [0]), (BadWidth, {}))

    def test_bad_arity(self):
        for arity in odd_but(1, 2, 3, 4) + [5]:
            with self.subTest(arity=arity):
                self.assertEqual(raised(Operation, 1, arity, [0]), (BadArity, {}))

    def test_no_list(self):
        for cells in [value for value in ODD if not isinstance(value, list)]:
            with self.subTest(cells=cells):
                self.assertEqual(raised(Operation, 1, 1, cells), (NoList, {}))

    def test_bad_length(self):
        for width, arity in SHAPES:
            size = width ** arity
            for length in (0, size - 1, size + 1, 2 * size):
                with self.subTest(width=width, arity=arity, length=length):
                    self.assertEqual(raised(Operation, width, arity, [0] * length), (BadLength, {}))

    def test_bad_cell_of_any_value(self):
        for width, arity, at in ((1, 4, 0), (2, 2, 3), (3, 3, 26), (3, 4, 40)):
            for cell in odd_but(*range(width)) + [width]:
                cells = [0] * width ** arity
                cells[at] = cell
                cells[at + 1:] = [None] * (len(cells) - at - 1)
                with self.subTest(width=width, arity=arity, cell=cell):
                    self.assertEqual(raised(Operation, width, arity, cells), (BadCell, {"number": at}))

    def test_which_error_comes_first(self):
        self.assertEqual(raised(Operation, 0, 0, None), (BadWidth, {}))
        self.assertEqual(raised(Operation, True, 5, (None,)), (BadWidth, {}))
        self.assertEqual(raised(Operation, 2, True, None), (BadArity, {}))
        self.assertEqual(raised(Operation, 2, 5, [None]), (BadArity, {}))
        self.assertEqual(raised(Operation, 2, 1, (0, 1, 2)), (NoList, {}))
        self.assertEqual(raised(Operation, 2, 1, [None]), (BadLength, {}))
        self.assertEqual(raised(Operation, 2, 1, [1, True]), (BadCell, {"number": 1}))


class CopiesTest(unittest.TestCase):
    def test_cells_handed_in_can_be_changed(self):
        cells = [0, 1, 1, 0]
        operation = Operation(2, 2, cells)
        cells[0] = 1
        cells.append(0)
        self.assertEqual((operation.cells, operation((0, 0))), ([0, 1, 1, 0], 0))

    def test_cells_told_can_be_changed(self):
        operation = Operation(2, 1, [1, 0])
        told = operation.cells
        told[0] = 0
        told.append(None)
        self.assertEqual((operation.cells, operation((0,))), ([1, 0], 1))

    def test_order_and_renamed(self):
        order, operation = [1, 0], Operation(2, 1, [0, 0])
        renamed = operation.renamed(order)
        self.assertEqual(order, [1, 0])
        order[0] = 0
        self.assertEqual((operation.cells, renamed.cells), ([0, 0], [1, 1]))

    def test_rows_told_by_breaks_can_be_changed(self):
        operation, table = Operation(2, 2, [0, 0, 0, 0]), Table(2, 1, [(1,)])
        breaks(operation, table).append(None)
        self.assertEqual(breaks(operation, table), [(1,), (1,)])
        self.assertEqual(table.rows, [(1,)])


class AskingTest(unittest.TestCase):
    def test_bad_arguments_of_any_value(self):
        for width, arity in SHAPES:
            operation = Operation(width, arity, [0] * width ** arity)
            for arguments in odd_but(*tuples(width, arity)):
                with self.subTest(width=width, arity=arity, arguments=arguments):
                    self.assertEqual(raised(operation, arguments), (BadArguments, {}))

    def test_bad_arguments_edges(self):
        operation = Operation(2, 2, [0, 1, 1, 0])
        for arguments in [(0,), (0, 1, 0), (0, 2), (-1, 0), (True, 0), (0, False), [0, 1], "01", (0, None)]:
            self.assertEqual(raised(operation, arguments), (BadArguments, {}))
        self.assertEqual(operation(arguments=(1, 0)), 1)

    def test_equality(self):
        operation = Operation(2, 2, [0, 1, 1, 0])
        self.assertTrue(operation == Operation(2, 2, [0, 1, 1, 0]))
        self.assertFalse(operation != Operation(2, 2, [0, 1, 1, 0]))
        self.assertFalse(operation == Operation(2, 2, [0, 1, 1, 1]))
        self.assertFalse(Operation(1, 1, [0]) == Operation(1, 2, [0]))
        self.assertTrue(Operation(1, 4, [0]) != Operation(1, 3, [0]))

    def test_any_other_object_is_unequal(self):
        operation = Operation(2, 1, [0, 1])
        for value in [*ODD, operation.cells, object(), Table(2, 1, [(0,)]), Operation]:
            with self.subTest(value=value):
                self.assertIs(operation == value, False)
                self.assertIs(operation != value, True)
                self.assertIs(value == operation, False)


class AgreesTest(unittest.TestCase):
    def agrees(self, operation):
        """Point 14, word for word."""
        if operation.arity < 3:
            return False
        for x in range(operation.width):
            for at in range(operation.arity):
                for value in range(operation.width):
                    some = [x] * operation.arity
                    some[at] = value
                    if operation(tuple(some)) != x:
                        return False
        return True

    def test_never_below_three(self):
        for width, arity in ((1, 1), (1, 2), (2, 1), (2, 2), (3, 1), (3, 2)):
            self.assertIs(Operation.taking(width, arity, 0).agrees(), False)

    def test_width_one(self):
        self.assertIs(Operation(1, 3, [0]).agrees(), True)
        self.assertIs(Operation(1, 4, [0]).agrees(), True)

    def test_each_operation_of_three_at_width_two(self):
        found = 0
        for cells in itertools.product((0, 1), repeat=8):
            operation = Operation(2, 3, list(cells))
            self.assertIs(operation.agrees(), self.agrees(operation))
            found += operation.agrees()
        self.assertEqual(found, 1)

    def test_each_cell_alone_can_spoil_it(self):
        for width, arity in ((2, 3), (2, 4), (3, 3), (3, 4)):
            free = Operation.by(width, arity, lambda some: max(range(width), key=some.count))
            self.assertIs(free.agrees(), True)
            for at, some in enumerate(tuples(width, arity)):
                cells = free.cells
                cells[at] = (cells[at] + 1) % width
                changed = Operation(width, arity, cells)
                with self.subTest(width=width, arity=arity, some=some):
                    self.assertIs(changed.agrees(), self.agrees(changed))
                    self.assertIs(changed.agrees(), max(map(some.count, some)) < arity - 1)


class RenamedTest(unittest.TestCase):
    def test_renamed(self):
        for width, arity in SHAPES:
            for operation in some_operations(width, arity, 2, 2):
                for order in itertools.permutations(range(width)):
                    renamed = operation.renamed(list(order))
                    self.assertEqual((renamed.width, renamed.arity), (width, arity))
                    for some in tuples(width, arity):
                        new = tuple(order[value] for value in some)
                        self.assertEqual(renamed(new), order[operation(some)])

    def test_agreements_stay_agreements(self):
        middle = Operation.by(3, 3, lambda some: sorted(some)[1])
        for order in itertools.permutations(range(3)):
            self.assertIs(middle.renamed(order=list(order)).agrees(), True)

    def test_bad_order(self):
        for width, good in ((1, [0]), (2, [0, 1]), (3, [0, 1, 2])):
            operation = Operation(width, 1, [0] * width)
            for order in odd_but(good) + [tuple(good), good[:-1], good + [0], [width] * width, [-1] * width]:
                with self.subTest(width=width, order=order):
                    self.assertEqual(raised(operation.renamed, order), (BadOrder, {}))
        for order in ([0, 1, 1], [0, True, 2], [0, 1, None], [0, 1, [2]], [0, 1, 3]):
            self.assertEqual(raised(Operation(3, 1, [0, 0, 0]).renamed, order), (BadOrder, {}))


class StaticTest(unittest.TestCase):
    def test_taking(self):
        for width, arity in SHAPES:
            for at in range(arity):
                taking = Operation.taking(width, arity, at)
                self.assertEqual((taking.width, taking.arity), (width, arity))
                self.assertEqual(taking.cells, [some[at] for some in tuples(width, arity)])
        self.assertEqual(Operation.taking(at=1, arity=2, width=2).cells, [0, 1, 0, 1])

    def test_taking_errors(self):
        for value in odd_but(1, 2, 3):
            self.assertEqual(raised(Operation.taking, value, 5, 9), (BadWidth, {}))
        for value in odd_but(1, 2, 3, 4):
            self.assertEqual(raised(Operation.taking, 2, value, 9), (BadArity, {}))
        for arity in (1, 2, 3, 4):
            for value in odd_but(*range(arity)) + [arity]:
                self.assertEqual(raised(Operation.taking, 2, arity, value), (BadSpots, {}))

    def test_by(self):
        for width, arity in SHAPES:
            asked = []

            def last_but(some):
                asked.append(some)
                return (sum(some) + 1) % width

            made = Operation.by(width, arity, last_but)
            self.assertEqual(asked, tuples(width, arity))
            self.assertEqual(made.cells, [(sum(some) + 1) % width for some in asked])
        self.assertEqual(Operation.by(function=min, arity=2, width=2).cells, [0, 0, 0, 1])

    def test_by_errors(self):
        for value in odd_but(1, 2, 3):
            self.assertEqual(raised(Operation.by, value, 5, lambda some: None), (BadWidth, {}))
        for value in odd_but(1, 2, 3, 4):
            self.assertEqual(raised(Operation.by, 2, value, lambda some: None), (BadArity, {}))
        for value in odd_but(0, 1):
            told = raised(Operation.by, 2, 2, lambda some: value if some >= (1, 0) else 1)
            self.assertEqual(told, (BadCell, {"number": 2}))


class BreaksTest(unittest.TestCase):
    def check(self, operation, table):
        """Compare with point 4, word for word, and look the paper over."""
        told = breaks(operation, table)
        kept = all(tuple(map(operation, zip(*taken))) in table
                   for taken in itertools.product(table.rows, repeat=operation.arity))
        self.assertEqual(told is None, kept)
        if told is not None:
            self.assertIsInstance(told, list)
            self.assertEqual(len(told), operation.arity)
            self.assertTrue(all(row in table for row in told))
            self.assertNotIn(tuple(operation(column) for column in zip(*told)), table)
            self.assertEqual(breaks(operation, table), told)
        return kept

    def test_each_small_operation_and_table(self):
        pairs, found = tuples(2, 2), {True: 0, False: 0}
        tables = [Table(2, 2, list(rows)) for many in range(5) for rows in itertools.combinations(pairs, many)]
        for arity in (1, 2):
            for cells in itertools.product((0, 1), repeat=2 ** arity):
                for table in tables:
                    found[self.check(Operation(2, arity, list(cells)), table)] += 1
        self.assertGreater(min(found.values()), 20)

    def test_all_shapes(self):
        drawn = random.Random(3)
        for width, arity in SHAPES:
            for operation in some_operations(width, arity, 4, 4):
                for positions in (1, 2, 3):
                    rows = tuples(width, positions)
                    for many in (1, 2, 4):
                        self.check(operation, Table(width, positions, drawn.sample(rows, min(many, len(rows)))))

    def test_tables_without_rows_and_with_all_are_kept(self):
        for width, arity in SHAPES:
            for operation in some_operations(width, arity, 2, 5):
                for positions in (1, 2, 3):
                    self.assertIsNone(breaks(operation, Table(width, positions, [])))
                    if width ** arity < 81:
                        self.assertIsNone(breaks(operation, Table.full(width, positions)))
                self.assertIsNone(breaks(operation, Table.equal(width)))

    def test_takings_keep_all_tables(self):
        drawn = random.Random(6)
        for width, arity in SHAPES:
            for at in range(arity):
                for positions in (1, 2, 3):
                    rows = tuples(width, positions)
                    table = Table(width, positions, drawn.sample(rows, drawn.randrange(len(rows) + 1)))
                    self.assertIsNone(breaks(Operation.taking(width, arity, at), table))

    def test_only_all_rows_together_break_it(self):
        ones = [(1, 0, 0), (0, 1, 0), (0, 0, 1)]
        most = Operation.by(2, 3, lambda some: sorted(some)[1])
        self.assertEqual(sorted(breaks(most, Table(2, 3, ones))), sorted(ones))
        self.assertIsNone(breaks(most, Table(2, 3, [*ones, (0, 0, 0)])))

    def test_one_row_may_be_taken_several_times(self):
        self.assertEqual(breaks(Operation(2, 4, [1] * 16), Table.only(2, 0)), [(0,)] * 4)

    def test_the_largest(self):
        table = Table(3, 3, tuples(3, 3)[:26])
        for operation in some_operations(3, 4, 1, 7):
            self.assertNotIn(tuple(map(operation, zip(*breaks(operation, table)))), table)
            self.assertIsNone(breaks(operation, Table.full(3, 3)))

    def test_by_name(self):
        self.assertIsNone(breaks(table=Table(2, 1, []), operation=Operation(2, 1, [0, 0])))

    def test_unlike(self):
        for one, other in itertools.permutations((1, 2, 3), 2):
            self.assertEqual(raised(breaks, Operation.taking(one, 2, 0), Table(other, 1, [])), (Unlike, {}))


if __name__ == "__main__":
    unittest.main()
