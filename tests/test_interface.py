"""The names of the interface: where they are defined, and the names of their arguments."""

import importlib
import inspect
import unittest

from nearsettled.folds import Fold
from nearsettled.operations import Operation
from nearsettled.puzzles import Book, Puzzle
from nearsettled.tables import Table

# A property has no list of arguments, a static method none for its own object. A star stands before an argument that
# is passed by name alone.
INTERFACE = {
    "nearsettled.tables": {
        "Table": {
            "__init__": ["self", "width", "arity", "rows"], "rows": property, "__len__": ["self"],
            "__contains__": None, "__eq__": None, "__and__": None, "__mul__": None, "seen": ["self", "spots"],
            "glued": ["self", "one", "other"], "renamed": ["self", "order"], "full": ["width", "arity"],
            "equal": ["width"], "only": ["width", "value"],
        },
    },
    "nearsettled.operations": {
        "all_tuples": ["width", "length"],
        "Operation": {
            "__init__": ["self", "width", "arity", "cells"], "cells": property, "__call__": ["self", "arguments"],
            "__eq__": None, "agrees": ["self"], "renamed": ["self", "order"],
            "taking": ["width", "arity", "at"], "by": ["width", "arity", "function"],
        },
        "breaks": ["operation", "table"],
    },
    "nearsettled.puzzles": {
        "Book": {
            "__init__": ["self", "width", "tables"], "tables": property, "__len__": ["self"], "__getitem__": None,
            "__eq__": None, "added": ["self", "table"], "given": ["self"], "without": ["self", "numbers"],
            "renamed": ["self", "order"],
        },
        "Puzzle": {
            "__init__": ["self", "book", "places", "rows"], "rows": property, "__len__": ["self"], "__eq__": None,
            "added": ["self", "table", "spots"], "part": ["self", "numbers"],
        },
        "first_broken": ["puzzle", "answer"],
        "is_choice": ["puzzle", "value"],
        "answers": ["puzzle", "*choice"],
        "solved": ["puzzle", "*choice"],
        "shows_none": ["puzzle", "choice", "value"],
    },
    "nearsettled.leans": {
        "lean": ["puzzle", "*choice"],
        "shows_lean": ["puzzle", "choice", "value"],
    },
    "nearsettled.places": {
        "kept_values": ["puzzle", "*choice"],
        "strikes": ["puzzle", "*choice"],
        "emptied": ["puzzle", "*choice"],
        "shows_strikes": ["puzzle", "value", "*choice"],
        "shows_emptied": ["puzzle", "value", "*choice"],
        "shows_sets": ["puzzle", "value"],
    },
    "nearsettled.folds": {
        "sets_of": ["width"],
        "set_rows": ["table"],
        "Fold": {
            "__init__": ["self", "width", "cells"], "cells": property, "__call__": ["self", "some"], "__eq__": None,
            "renamed": ["self", "order"], "of_meet": ["operation"],
        },
        "fold_breaks": ["fold", "table"],
        "folded": ["book"],
        "shows_fold": ["book", "value"],
        "shows_fooled": ["book", "value"],
        "folds": ["book"],
        "answered": ["fold", "puzzle"],
    },
    "nearsettled.choices": {
        "kept_choices": ["puzzle", "near"],
        "choice_strikes": ["puzzle", "near"],
        "emptied_near": ["puzzle", "near"],
        "shows_choice_strikes": ["puzzle", "near", "value"],
        "shows_kept_choices": ["puzzle", "near", "value"],
    },
    "nearsettled.agreements": {
        "agreed": ["book", "near"],
        "shows_agreement": ["book", "near", "value"],
        "shows_parted": ["book", "near", "value"],
        "reach": ["book"],
    },
    "nearsettled.going": {
        "gone_on": ["puzzle", "near", "choice"],
        "answers_near": ["puzzle", "near"],
        "dead_ends": ["puzzle", "near"],
    },
    "nearsettled.drops": {
        "sub_books": ["book"],
        "shows_sub_books": ["book", "value"],
        "least_drop": ["book"],
        "shows_drop": ["book", "value"],
    },
    "nearsettled.desks": {
        "Desk": {
            "__init__": ["self", "book", "places"], "put": ["self", "table", "spots"], "withdraw": ["self", "number"],
            "__getitem__": None, "__setitem__": None, "__contains__": None, "__len__": ["self"], "mark": ["self"],
            "back_to": ["self", "number"], "book": property, "places": property, "numbers": property,
            "puzzle": property, "changed": property, "kept": ["self", "place"], "paper": ["self"],
            "told_by": ["self", "fold"], "tried": ["self", "rows"], "copy": ["self"],
        },
    },
    "nearsettled.texts": {
        "show_book": ["book"],
        "show_puzzle": ["puzzle"],
        "read_book": ["text"],
        "read_puzzle": ["text", "book"],
    },
}
STATIC = ["full", "equal", "only", "taking", "by", "of_meet"]
GENERATORS = ["all_tuples", "answers", "folds", "answers_near"]


def arguments_of(made):
    """The names of the arguments of a function."""
    found = inspect.signature(made).parameters.values()
    return [("*" if part.kind is part.KEYWORD_ONLY else "") + part.name for part in found]


class InterfaceTest(unittest.TestCase):
    def check_method(self, made, name, wanted):
        self.assertIn(name, vars(made))
        self.assertEqual(isinstance(vars(made)[name], staticmethod), name in STATIC)
        if wanted is property:
            self.assertIsInstance(vars(made)[name], property)
        elif wanted is not None:
            self.assertEqual(arguments_of(getattr(made, name)), wanted)

    def test_names_and_arguments(self):
        for place, names in INTERFACE.items():
            module = importlib.import_module(place)
            for name, wanted in names.items():
                with self.subTest(place, name=name):
                    made = getattr(module, name)
                    self.assertEqual(made.__module__, place)
                    if isinstance(wanted, dict):
                        for method, arguments in wanted.items():
                            self.check_method(made, method, arguments)
                    else:
                        self.assertEqual(arguments_of(made), wanted)

    def test_generators(self):
        for place, names in INTERFACE.items():
            for name in names:
                made = getattr(importlib.import_module(place), name)
                self.assertEqual(inspect.isgeneratorfunction(made), name in GENERATORS, name)

    def test_attributes_are_set_when_an_object_is_created(self):
        book = Book(2, [Table(2, 1, [(1,)])])
        for made, names in ((book[0], ["width", "arity"]), (Operation(2, 1, [0, 1]), ["width", "arity"]),
                            (book, ["width"]), (Fold(2, [0, 0, 1]), ["width"])):
            for name in names:
                self.assertIn(name, vars(made))
        # Those of a puzzle have the names of properties of a desk, so they are no plain ones.
        made = Puzzle(book, 1, [])
        self.assertIs(made.book, book)
        self.assertEqual(made.places, 1)

    def test_arguments_by_name_alone_may_be_left_out(self):
        for place, names in INTERFACE.items():
            for name, wanted in names.items():
                if "*choice" in wanted:
                    made = getattr(importlib.import_module(place), name)
                    self.assertEqual(inspect.signature(made).parameters["choice"].default, ())


if __name__ == "__main__":
    unittest.main()
