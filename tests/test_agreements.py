"""Points 2, 3, 14, 15, 17, 21 and 22 for nearsettled.agreements."""

import itertools
import random
import unittest

from nearsettled.agreements import agreed, reach, shows_agreement, shows_parted
from nearsettled.choices import kept_choices
from nearsettled.errors import BadNear
from nearsettled.folds import folded
from nearsettled.operations import breaks, Operation
from nearsettled.puzzles import answers, Book, Puzzle, shows_none
from nearsettled.tables import Table
from tests.far_looks import agreements, all_parts, plain_agreement, plain_breaks, plain_parted
from tests.helpers import ODD, odd_but, otherwise, raised, spoil
from tests.looks import all_choices, plain_answers
from tests.samples import (AT_MOST, BETWEEN, COLOURS, EMPTY, EVEN, known_books, LEAST, NEXT, small_book, SUM, UNLIKE,
                           UP)

ONE_OF_THREE = Table(2, 3, [row for row in itertools.product((0, 1), repeat=3) if row != (0, 0, 0)])
HORN = Table(2, 3, [row for row in itertools.product((0, 1), repeat=3) if row != (1, 1, 0)])


def some_books(seed, many, widths=(1, 2, 2, 3)):
    source = random.Random(seed)
    return [small_book(source, source.choice(widths)) for _ in range(many)]


def nears(book):
    return (2,) if book.width == 3 else (2, 3)


def small_puzzles(source, book, many, places=4):
    """Puzzles of a few places over a book."""
    for _ in range(many if len(book) > 0 else 0):
        uses = [source.randrange(len(book)) for _ in range(source.randint(1, 6))]
        yield Puzzle(book, places, [(use, tuple(source.randrange(places) for _ in range(book[use].arity))) for use in uses])


class AgreedTest(unittest.TestCase):
    def check(self, book, near):
        """Check what is told of a book, and return the word."""
        told = agreed(book, near)
        self.assertIs(type(told), tuple)
        if told[0] == "yes":
            self.assertEqual(len(told), 2)
            self.assertTrue(plain_agreement(book, near, told[1]))
            self.assertIs(shows_agreement(book, near, told[1]), True)
            self.assertIs(shows_parted(book, near, told[1]), False)
        else:
            self.assertEqual([type(part) for part in told], [str, Puzzle, tuple, list, tuple])
            self.assertEqual(told[0], "no")
            self.assertTrue(plain_parted(book, near, told[1:]))
            self.assertIs(shows_parted(book, near, told[1:]), True)
            for cells in agreements(book.width, near + 1):
                self.assertTrue(any(plain_breaks(book.width, near + 1, cells, table) for table in book.tables))
        return told[0]

    def test_against_a_trial_of_all_agreements(self):
        words = {2: [], 3: []}
        for book in some_books(1, 100):
            for near in nears(book):
                words[near].append(self.check(book, near))
        for some in words.values():
            self.assertGreater(min(some.count("yes"), some.count("no")), 8)

    def test_known_books(self):
        words = {name: self.check(book, 2) for name, book in known_books()}
        yes = ["up", "up and ones", "away", "next", "between", "between and up", "nothing", "all", "all and next"]
        self.assertEqual([name for name in words if words[name] == "yes"], yes)

    def test_two_values(self):
        for tables, two, three in (([UNLIKE, AT_MOST], "yes", "yes"), ([EVEN], "no", "no"), ([ONE_OF_THREE], "no", "yes"),
                                   ([ONE_OF_THREE, UNLIKE], "no", "no"), ([HORN], "no", "no"), ([EMPTY], "yes", "yes"),
                                   ([], "yes", "yes"), ([ONE_OF_THREE, AT_MOST], "no", "yes")):
            self.assertEqual(self.check(Book(2, tables), 2), two)
            self.assertEqual(self.check(Book(2, tables), 3), three)

    def test_one_value(self):
        for tables in ([], [Table.full(1, 3)], [Table(1, 2, []), Table.full(1, 1)]):
            self.assertEqual(agreed(near=2, book=Book(1, tables)), ("yes", Operation(1, 3, [0])))
            self.assertEqual(agreed(Book(1, tables), 3), ("yes", Operation(1, 4, [0])))

    def test_with_a_fold_and_without(self):
        # Neither question decides the other one.
        for tables, fold, word in (([NEXT], "no", "yes"), ([LEAST], "yes", "no"), ([UP], "yes", "yes"),
                                   ([COLOURS], "no", "no")):
            self.assertEqual((folded(Book(3, tables))[0], agreed(Book(3, tables), 2)[0]), (fold, word))

    def test_at_the_bounds(self):
        source = random.Random(2)
        rows = list(itertools.product(range(3), repeat=3))
        for many in (10, 8, 5, 4):
            for _ in range(3):
                book = Book(3, [Table(3, 3, source.sample(rows, many)) for _ in range(min(12, 1200 // many ** 3))])
                told = agreed(book, 2)
                shows = shows_agreement(book, 2, told[1]) if told[0] == "yes" else shows_parted(book, 2, told[1:])
                self.assertTrue(shows)
        for tables in ([Table.full(2, 3)], [ONE_OF_THREE, HORN], [Table(2, 3, [(0, 0, 0)])] * 12):
            book = Book(2, tables)
            told = agreed(book, 3)
            shows = shows_agreement(book, 3, told[1]) if told[0] == "yes" else shows_parted(book, 3, told[1:])
            self.assertTrue(shows)
        hard = Book(3, [SUM, Table(3, 2, [(0, 0), (1, 1), (2, 2), (0, 1)])])
        self.assertEqual(agreed(hard, 2)[0], "no")

    def test_never_both(self):
        source = random.Random(3)
        for book in some_books(3, 40):
            for near in nears(book):
                told = agreed(book, near)
                other = agreed(small_book(source, book.width), near)
                if told[0] == "yes":
                    self.assertFalse(shows_parted(book, near, other[1:]))
                else:
                    self.assertFalse(shows_agreement(book, near, other[1]))

    def test_without_dead_ends(self):
        source = random.Random(4)
        counts = [0, 0]
        for book in some_books(4, 60, (2, 2, 3)):
            for near in nears(book):
                if agreed(book, near)[0] == "yes":
                    for puzzle in small_puzzles(source, book, 3):
                        counts[0] += self.check_kept(puzzle, near)
                        counts[1] += self.check_together(puzzle, near)
        self.assertGreater(min(counts), 1000)

    def check_kept(self, puzzle, near):
        """Each choice all of whose small parts are kept goes on to an answer; the kept ones are the parts of answers."""
        kept = set(kept_choices(puzzle, near))
        found = plain_answers(puzzle)
        many = 0
        for choice in all_choices(puzzle):
            if all(part in kept for part in all_parts(choice) if len(part) <= near):
                self.assertTrue(any(all(told[place] == value for place, value in choice) for told in found))
                many += 1
        return many

    def check_together(self, puzzle, near):
        """Each choice any near pairs of which stand together in an answer goes on to one."""
        found = plain_answers(puzzle)
        together = {pairs for told in found for pairs in itertools.combinations(enumerate(told), near)}
        many = 0
        for choice in all_choices(puzzle):
            if len(choice) >= near and all(pairs in together for pairs in itertools.combinations(choice, near)):
                self.assertTrue(any(all(told[place] == value for place, value in choice) for told in found))
                many += 1
        return many

    def test_parted_papers_by_themselves(self):
        many = 0
        for book in some_books(5, 40, (2,)):
            for near in (2, 3):
                told = agreed(book, near)
                if told[0] == "no":
                    puzzle, choice, some, tree = told[1:]
                    self.assertTrue(shows_none(puzzle, choice, tree))
                    self.assertEqual(list(answers(puzzle, choice=choice)), [])
                    self.assertTrue(all(next(answers(puzzle, choice=tuple(enumerate(one)))) == one for one in some))
                    many += 1
        self.assertGreater(many, 8)

    def test_what_is_made_of_kept_tables_is_kept(self):
        for book in some_books(6, 40, (2, 3)):
            told = agreed(book, 2)
            if told[0] == "yes":
                for one, other in itertools.product(book.tables, repeat=2):
                    made = [Table.equal(book.width), Table.full(book.width, 2), one.seen((0, 0)), one.glued(0, 1)]
                    made += [one & other] if one.arity == other.arity else []
                    made += [one.seen((1,)) * other] if other.arity < 3 else []
                    self.assertTrue(all(breaks(told[1], table) is None for table in made))

    def test_values_renamed(self):
        for book in some_books(7, 30, (2, 3)):
            told = agreed(book, 2)
            for order in itertools.permutations(range(book.width)):
                renamed = book.renamed(list(order))
                self.assertEqual(agreed(renamed, 2)[0], told[0])
                if told[0] == "yes":
                    self.assertTrue(shows_agreement(renamed, 2, told[1].renamed(list(order))))

    def test_the_same_question_has_the_same_answer(self):
        for book in some_books(8, 30):
            again = Book(book.width, book.tables)
            self.assertEqual(agreed(book, 2), agreed(again, 2))
            self.assertEqual(reach(book), reach(again))

    def test_lists_told_can_be_changed(self):
        book = Book(2, [EVEN])
        told = agreed(book, 2)
        told[3].clear()
        spoil(told[2:])
        told[1].rows.clear()
        self.assertTrue(plain_parted(book, 2, agreed(book, 2)[1:]))
        found = reach(book)
        found[1].clear()
        self.assertEqual(len(reach(book)[1]), 2)


class ReachTest(unittest.TestCase):
    def test_against_agreed(self):
        words = []
        for book in some_books(9, 60) + [book for _, book in known_books()]:
            told = reach(book)
            found = [agreed(book, near)[0] for near in nears(book)]
            papers = told[-1]
            if "yes" in found:
                near = nears(book)[found.index("yes")]
                self.assertEqual((told[:2], len(told)), (("yes", near), 4))
                self.assertTrue(plain_agreement(book, near, told[2]))
                self.assertEqual(len(papers), near - 2)
            else:
                self.assertEqual((told[0], len(told), len(papers)), ("no", 2, len(nears(book))))
            self.assertIs(type(papers), list)
            for paper, near in zip(papers, (2, 3)):
                self.assertTrue(plain_parted(book, near, paper))
            words.append(told[:2] if told[0] == "yes" else "no")
        self.assertGreater(words.count("no"), 10)
        self.assertGreater(words.count(("yes", 2)), 10)

    def test_by_hand(self):
        self.assertEqual(reach(book=Book(2, [ONE_OF_THREE]))[:2], ("yes", 3))
        self.assertEqual(reach(Book(2, [])), ("yes", 2, agreed(Book(2, []), 2)[1], []))
        self.assertEqual(len(reach(Book(3, [COLOURS]))[1]), 1)
        self.assertEqual(len(reach(Book(2, [HORN]))[1]), 2)


class ShowsTest(unittest.TestCase):
    def check(self, book, near, value):
        found = shows_agreement(book, near, value), shows_parted(book, near, value)
        right = plain_agreement(book, near, value), plain_parted(book, near, value)
        self.assertEqual(found, right, value)
        self.assertEqual({type(one) for one in found}, {bool})
        return found

    def small_paper(self):
        """A paper over a book, made by hand."""
        book = Book(2, [EVEN, AT_MOST])
        rows = [(0, (0, 1, 2)), (0, (0, 1, 1))]
        tree = ("split", 2, [("broken", 0), ("broken", 1)])
        return book, (Puzzle(book, 3, rows), ((0, 1), (1, 0)), [(0, 0, 0), (0, 1, 1)], tree)

    def test_values_with_one_part_otherwise(self):
        counts = [0, 0]
        for book in some_books(10, 40, (2, 2, 3)):
            for near in nears(book):
                told = agreed(book, near)
                value = told[1] if told[0] == "yes" else told[1:]
                if len(repr(told)) < 900 and (told[0] == "yes" or len(told[1]) < 4):
                    for at, other in enumerate(otherwise(value)):
                        if at % 3 == 0:
                            agreement, parted = self.check(book, near, other)
                            counts[0] += agreement
                            counts[1] += parted
        self.assertGreater(min(counts), 10)

    def test_a_paper_by_hand(self):
        book = Book(2, [EVEN])
        triple = Puzzle(book, 3, [(0, (0, 1, 2))])
        right = (triple, ((0, 0), (1, 0), (2, 1)), [(0, 0, 0), (0, 1, 1), (1, 0, 1)], ("broken", 0))
        self.assertTrue(shows_parted(book=book, near=2, value=right))
        self.assertFalse(shows_parted(book, 3, right))
        for value in otherwise(right):
            self.check(book, 2, value)
            self.check(book, 3, value)
        for wrong in ((triple, right[1], right[2][:2], right[3]), (triple, right[1], [*right[2], (1, 1, 1)], right[3]),
                      (triple, right[1][:2], right[2], right[3]), (triple, right[1], tuple(right[2]), right[3]),
                      (triple, right[1], right[2], ("split", 0, [right[3]] * 2)), right[:3], list(right),
                      (triple.added(0, (0, 0, 0)), right[1], [], right[3]), (triple, right[1], [], right[3])):
            self.assertIs(shows_parted(book, 2, wrong), False)

    def test_choices_of_few_places(self):
        book, paper = self.small_paper()
        # One place is too few; and with two of them, both must stand in one answer, so there is no such tree.
        self.check(book, 2, paper)
        self.check(book, 2, (paper[0], ((0, 1),), paper[2], paper[3]))
        never = Book(2, [EMPTY])
        tree = ("broken", 0)
        self.assertFalse(shows_parted(never, 2, (Puzzle(never, 1, [(0, (0, 0))]), ((0, 0),), [], tree)))
        self.assertFalse(shows_parted(never, 2, (Puzzle(never, 2, [(0, (0, 0))]), ((0, 0), (1, 0)), [], tree)))

    def test_operations(self):
        book = Book(2, [AT_MOST])
        for arity in (1, 2, 3, 4):
            for at in range(arity):
                self.check(book, 2, Operation.taking(2, arity, at))
                self.check(book, 3, Operation.taking(2, arity, at))
        majority = Operation(2, 3, [0, 0, 0, 1, 0, 1, 1, 1])
        self.assertTrue(shows_agreement(value=majority, near=2, book=book))
        self.assertFalse(shows_agreement(book, 3, majority))
        self.assertFalse(shows_agreement(Book(2, [EVEN]), 2, majority))
        self.assertFalse(shows_agreement(Book(3, []), 2, majority))
        for cells in agreements(2, 4):
            self.check(Book(2, [ONE_OF_THREE]), 3, Operation(2, 4, cells))
        for cells in agreements(3, 3)[::9]:
            self.check(Book(3, [UP]), 2, Operation(3, 3, cells))
            self.check(Book(3, [BETWEEN]), 2, Operation(3, 3, cells))

    def test_long_choices(self):
        book = Book(2, [UNLIKE])
        chain = Puzzle(book, 60, [(0, (place, place + 1)) for place in range(59)])
        choice = tuple((place, 0) for place in range(60))
        for near in (2, 3):
            self.assertFalse(shows_parted(book, near, (chain, choice, [(0, 1) * 30, (1, 0) * 30], ("broken", 0))))

    def test_of_any_value(self):
        for book in (Book(2, [UNLIKE]), Book(3, []), Book(1, [])):
            for value in otherwise((None, (), [], ("broken", 0))):
                self.check(book, 2, value)


class BadNearTest(unittest.TestCase):
    def test_bad_near(self):
        for book, good in ((Book(2, [UNLIKE]), (2, 3)), (Book(1, []), (2, 3)), (Book(3, []), (2,))):
            for near in [*odd_but(*good), *[near for near in (1, 4, -2) if near not in good]]:
                with self.subTest(near=near):
                    self.assertEqual(raised(agreed, book, near), (BadNear, {}))
                    for value in ([], None, agreed(book, 2)[1], ODD):
                        self.assertEqual(raised(shows_agreement, book, near, value), (BadNear, {}))
                        self.assertEqual(raised(shows_parted, book, near, value), (BadNear, {}))


if __name__ == "__main__":
    unittest.main()
