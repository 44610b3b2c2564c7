"""Points 1, 2 and 3 over the whole interface: arguments by name, lists that are handed in and told, the two papers."""

import random
import types
import unittest

from nearsettled.agreements import agreed, reach, shows_agreement, shows_parted
from nearsettled.choices import choice_strikes, emptied_near, kept_choices, shows_choice_strikes, shows_kept_choices
from nearsettled.desks import Desk
from nearsettled.drops import least_drop, shows_drop, shows_sub_books, sub_books
from nearsettled.folds import answered, Fold, fold_breaks, folded, folds, set_rows, sets_of, shows_fold, shows_fooled
from nearsettled.going import answers_near, dead_ends, gone_on
from nearsettled.leans import lean, shows_lean
from nearsettled.operations import all_tuples, breaks, Operation
from nearsettled.places import emptied, kept_values, shows_emptied, shows_sets, shows_strikes, strikes
from nearsettled.puzzles import answers, Book, first_broken, is_choice, Puzzle, shows_none, solved
from nearsettled.tables import Table
from nearsettled.texts import read_book, read_puzzle, show_book, show_puzzle
from tests.helpers import lists_in
from tests.looks import plain_answers, plain_kept
from tests.samples import AT_MOST, COLOURS, EMPTY, EVEN, ring, small_book, some_book, tight_puzzles, UNLIKE

BOOK = Book(2, [UNLIKE, AT_MOST, Table.only(2, 1)])
WAY = Puzzle(BOOK, 3, [(0, (0, 1)), (1, (1, 2)), (2, (0,))])
RING = ring(3)
LEAST = Operation(2, 2, [0, 0, 0, 1])
MEET = Fold(2, [0, 0, 1])
CHOICE = ((0, 1),)

# Functions and methods, each with all of its arguments in their order.
CALLS = [
    (all_tuples, {"width": 2, "length": 2}),
    (Table, {"width": 2, "arity": 1, "rows": [(0,), (1,)]}),
    (UNLIKE.seen, {"spots": (1, 0, 1)}),
    (AT_MOST.glued, {"one": 0, "other": 1}),
    (AT_MOST.renamed, {"order": [1, 0]}),
    (Table.full, {"width": 2, "arity": 2}),
    (Table.equal, {"width": 2}),
    (Table.only, {"width": 2, "value": 1}),
    (Operation, {"width": 2, "arity": 1, "cells": [1, 0]}),
    (LEAST, {"arguments": (1, 1)}),
    (LEAST.agrees, {}),
    (LEAST.renamed, {"order": [1, 0]}),
    (Operation.taking, {"width": 2, "arity": 3, "at": 1}),
    (Operation.by, {"width": 2, "arity": 2, "function": max}),
    (breaks, {"operation": LEAST, "table": UNLIKE}),
    (Book, {"width": 2, "tables": [UNLIKE, AT_MOST]}),
    (BOOK.added, {"table": UNLIKE}),
    (BOOK.given, {}),
    (BOOK.without, {"numbers": [2, 0]}),
    (BOOK.renamed, {"order": [1, 0]}),
    (Puzzle, {"book": BOOK, "places": 3, "rows": [(0, (0, 1))]}),
    (WAY.added, {"table": 0, "spots": (2, 2)}),
    (WAY.part, {"numbers": [2, 1]}),
    (first_broken, {"puzzle": WAY, "answer": (0, 0, 0)}),
    (is_choice, {"puzzle": WAY, "value": CHOICE}),
    (shows_none, {"puzzle": RING, "choice": (), "value": solved(RING)[1]}),
    (shows_lean, {"puzzle": RING, "choice": (), "value": lean(RING)}),
    (shows_sets, {"puzzle": WAY, "value": kept_values(WAY)}),
    (sets_of, {"width": 3}),
    (set_rows, {"table": AT_MOST}),
    (Fold, {"width": 2, "cells": [0, 0, 1]}),
    (MEET, {"some": (0, 1)}),
    (MEET.renamed, {"order": [1, 0]}),
    (Fold.of_meet, {"operation": LEAST}),
    (fold_breaks, {"fold": MEET, "table": UNLIKE}),
    (folded, {"book": BOOK}),
    (shows_fold, {"book": Book(2, [AT_MOST]), "value": MEET}),
    (shows_fooled, {"book": BOOK, "value": folded(BOOK)[1:]}),
    (folds, {"book": Book(2, [AT_MOST])}),
    (answered, {"fold": MEET, "puzzle": Puzzle(Book(2, [AT_MOST]), 2, [(0, (0, 1))])}),
    (kept_choices, {"puzzle": WAY, "near": 2}),
    (choice_strikes, {"puzzle": WAY, "near": 3}),
    (emptied_near, {"puzzle": RING, "near": 2}),
    (shows_choice_strikes, {"puzzle": WAY, "near": 2, "value": choice_strikes(WAY, 2)}),
    (shows_kept_choices, {"puzzle": WAY, "near": 2, "value": kept_choices(WAY, 2)}),
    (agreed, {"book": Book(2, [EVEN]), "near": 2}),
    (shows_agreement, {"book": BOOK, "near": 2, "value": agreed(BOOK, 2)[1]}),
    (shows_parted, {"book": Book(2, [EVEN]), "near": 3, "value": agreed(Book(2, [EVEN]), 3)[1:]}),
    (reach, {"book": Book(2, [EVEN])}),
    (gone_on, {"puzzle": WAY, "near": 1, "choice": CHOICE}),
    (answers_near, {"puzzle": WAY, "near": 2}),
    (dead_ends, {"puzzle": RING, "near": 1}),
    (sub_books, {"book": BOOK}),
    (shows_sub_books, {"book": BOOK, "value": sub_books(BOOK)}),
    (least_drop, {"book": BOOK}),
    (shows_drop, {"book": BOOK, "value": least_drop(BOOK)}),
    (Desk, {"book": BOOK, "places": 3}),
    (show_book, {"book": BOOK}),
    (show_puzzle, {"puzzle": WAY}),
    (read_book, {"text": show_book(BOOK)}),
    (read_puzzle, {"text": show_puzzle(WAY), "book": BOOK}),
]
# Those with an argument that is passed by name alone.
CALLS_WITH_CHOICE = [
    (answers, {"puzzle": WAY}), (solved, {"puzzle": RING}), (lean, {"puzzle": RING}), (kept_values, {"puzzle": WAY}),
    (strikes, {"puzzle": WAY}), (emptied, {"puzzle": RING}),
    (shows_strikes, {"puzzle": RING, "value": strikes(RING, choice=CHOICE)}),
    (shows_emptied, {"puzzle": RING, "value": strikes(RING, choice=CHOICE)}),
]
# Methods of desks, and how to look at what they did.
DEEDS = [
    ("put", {"table": 1, "spots": (0, 2)}), ("withdraw", {"number": 1}), ("mark", {}), ("back_to", {"number": 0}),
    ("kept", {"place": 2}), ("paper", {}), ("told_by", {"fold": MEET}), ("tried", {"rows": [(1, (0, 2))]}), ("copy", {}),
]


def shown(value):
    """What a value holds, with objects of the package told by their parts; generators are gone through."""
    if isinstance(value, types.GeneratorType):
        return [shown(part) for part in value]
    if isinstance(value, (list, tuple)):
        return type(value)(shown(part) for part in value)
    if isinstance(value, Table):
        return ("table", value.width, value.arity, value.rows)
    if isinstance(value, (Operation, Fold)):
        return ("cells", value.width, value.cells)
    if isinstance(value, Book):
        return ("book", value.width, shown(value.tables))
    if isinstance(value, Puzzle):
        return ("puzzle", shown(value.book), value.places, value.rows)
    if isinstance(value, Desk):
        return ("desk", shown(value.puzzle), value.numbers, value.changed, value.paper(), value.copy().mark())
    return value


def desk():
    """A desk with two rows, a mark between them, and one row gone."""
    made = Desk(Book(2, [Table.full(2, 3), AT_MOST, EMPTY, Table.only(2, 0)]), 3)
    made.put(1, (0, 1))
    made.mark()
    made.put(3, (1,))
    made.put(0, (0, 1, 2))
    made.withdraw(0)
    return made


class NamesTest(unittest.TestCase):
    def test_by_position_and_by_name(self):
        for function, named in CALLS:
            with self.subTest(function=function):
                found = shown(function(*named.values()))
                self.assertEqual(shown(function(**named)), found)
                self.assertEqual(shown(function(**dict(reversed(named.items())))), found)

    def test_choice_by_name_alone(self):
        for function, named in CALLS_WITH_CHOICE:
            for choice in ((), CHOICE):
                with self.subTest(function=function, choice=choice):
                    found = shown(function(*named.values(), choice=choice))
                    self.assertEqual(shown(function(choice=choice, **named)), found)
                    with self.assertRaises(TypeError):
                        function(*named.values(), choice)
            self.assertEqual(shown(function(**named)), shown(function(choice=(), **named)))

    def test_deeds_by_position_and_by_name(self):
        for name, named in DEEDS:
            with self.subTest(name):
                one, other = desk(), desk()
                self.assertEqual(shown(getattr(one, name)(*named.values())), shown(getattr(other, name)(**named)))
                self.assertEqual(shown(one), shown(other))


def parts_of(value):
    """All lists that are told: those in a value, and those that its objects tell."""
    if isinstance(value, (list, tuple)):
        found = [value] if isinstance(value, list) else []
        return found + [one for part in value for one in parts_of(part)]
    if isinstance(value, (Fold, Operation)):
        return [value.cells]
    if isinstance(value, Puzzle):
        return [value.rows, value.book.tables]
    if isinstance(value, Book):
        return [value.tables]
    return [value.rows] if isinstance(value, Table) else []


class CopiesTest(unittest.TestCase):
    def told(self, function, named):
        found = function(**named)
        return list(found) if isinstance(found, types.GeneratorType) else found

    def test_lists_told_are_new(self):
        for function, named in CALLS + CALLS_WITH_CHOICE:
            with self.subTest(function=function):
                found = self.told(function, named)
                before = shown(found)
                same = [id(part) for value in named.values() for part in lists_in(value)]
                for some in parts_of(found):
                    # A list that is told is neither one that was handed in, nor one that is told again.
                    self.assertNotIn(id(some), same)
                    some.append("spoiled")
                    some.reverse()
                self.assertEqual(shown(self.told(function, named)), before)

    def test_lists_handed_in_stay_as_they_are_and_can_be_changed(self):
        for function, named in CALLS + CALLS_WITH_CHOICE:
            handed = {name: self.copied(value) for name, value in named.items()}
            some = [part for value in handed.values() for part in lists_in(value)]
            with self.subTest(function=function):
                found = self.told(function, handed)
                before = shown(found)
                self.assertEqual(shown(tuple(handed.values())), shown(tuple(named.values())))
                for part in some:
                    part.append("spoiled")
                    part.reverse()
                self.assertEqual(shown(found), before)

    def copied(self, value):
        """A value with new lists in it."""
        if isinstance(value, (list, tuple)):
            return type(value)(self.copied(part) for part in value)
        return value

    def test_deeds(self):
        for name, named in DEEDS:
            with self.subTest(name):
                one, other = desk(), desk()
                handed = {key: self.copied(value) for key, value in named.items()}
                found = getattr(one, name)(**handed)
                getattr(other, name)(**handed)
                for part in [*parts_of(found), *[part for value in handed.values() for part in lists_in(value)]]:
                    part.append("spoiled")
                self.assertEqual(shown(one), shown(other))


class TwoPapersTest(unittest.TestCase):
    """The answer to each question is one of its two papers, always, and never both."""

    def test_of_a_puzzle(self):
        for puzzle in tight_puzzles(1, 60):
            word, told = solved(puzzle)
            self.assertEqual(first_broken(puzzle, told) if word == "yes" else shows_none(puzzle, (), told),
                             None if word == "yes" else True)
            word, told = emptied(puzzle)
            self.assertTrue(shows_emptied(puzzle, told) if word == "yes" else shows_sets(puzzle, told))
            word, told = emptied_near(puzzle, 2)
            self.assertTrue((shows_choice_strikes if word == "yes" else shows_kept_choices)(puzzle, 2, told))

    def test_of_a_book(self):
        source = random.Random(2)
        for _ in range(60):
            book = source.choice((some_book, small_book))(source, source.choice((1, 2, 2, 3)))
            told = folded(book)
            self.assertTrue(shows_fold(book, told[1]) if told[0] == "yes" else shows_fooled(book, told[1:]))
            if sum(len(table) ** 3 for table in book.tables) <= 1200:
                told = agreed(book, 2)
                right = shows_agreement(book, 2, told[1]) if told[0] == "yes" else shows_parted(book, 2, told[1:])
                self.assertTrue(right)

    def test_settled_books(self):
        counts = [0, 0]
        for puzzle in tight_puzzles(3, 200):
            word = folded(puzzle.book)
            if word[0] == "yes":
                told = answered(word[1], puzzle)
                counts[told[0] == "yes"] += 1
                self.assertEqual(told[0] == "yes", plain_answers(puzzle) != [])
                self.assertEqual(told[0] == "yes", () not in plain_kept(puzzle))
        self.assertGreater(min(counts), 10)
        self.assertEqual(agreed(Book(3, [COLOURS]), 2)[0], "no")


if __name__ == "__main__":
    unittest.main()
