"""The names of the interface: where they are defined, and the names of their arguments."""

import importlib
import inspect
import unittest

# A property has no list of arguments, a static method none for its own object.
INTERFACE = {
    "nearsettled.tables": {
        "Table": {
            "__init__": ["self", "width", "arity", "rows"], "rows": property, "__len__": ["self"],
            "__contains__": None, "__eq__": None, "__and__": None, "__mul__": None, "seen": ["self", "spots"],
            "glued": ["self", "one", "other"], "renamed": ["self", "order"], "full": ["width", "arity"],
            "equal": ["width"], "only": ["width", "value"],
        },
    },
    "nearsettled.operations": {
        "all_tuples": ["width", "length"],
        "Operation": {
            "__init__": ["self", "width", "arity", "cells"], "cells": property, "__call__": ["self", "arguments"],
            "__eq__": None, "agrees": ["self"], "renamed": ["self", "order"],
            "taking": ["width", "arity", "at"], "by": ["width", "arity", "function"],
        },
        "breaks": ["operation", "table"],
    },
}
STATIC = ["full", "equal", "only", "taking", "by"]


class InterfaceTest(unittest.TestCase):
    def check_method(self, made, name, wanted):
        self.assertIn(name, vars(made))
        self.assertEqual(isinstance(vars(made)[name], staticmethod), name in STATIC)
        if wanted is property:
            self.assertIsInstance(vars(made)[name], property)
        elif wanted is not None:
            self.assertEqual(list(inspect.signature(getattr(made, name)).parameters), wanted)

    def test_names_and_arguments(self):
        for place, names in INTERFACE.items():
            module = importlib.import_module(place)
            for name, wanted in names.items():
                with self.subTest(place, name=name):
                    made = getattr(module, name)
                    self.assertEqual(made.__module__, place)
                    if isinstance(wanted, dict):
                        for method, arguments in wanted.items():
                            self.check_method(made, method, arguments)
                    else:
                        self.assertEqual(list(inspect.signature(made).parameters), wanted)


if __name__ == "__main__":
    unittest.main()
