"""The rules of ../shared/LANGUAGE.md that are plain to check: files, imports, sizes, names, words.

The other rules are left to the reader of the code.
"""

import ast
import builtins
import importlib
import os
import re
import unittest

PACKAGE = os.path.join(os.path.dirname(__file__), "..", "nearsettled")
BUILTINS = """len range enumerate zip min max sum abs sorted reversed int str bool bytes list tuple dict set frozenset
isinstance ord repr any all divmod pow getattr hasattr setattr super property staticmethod classmethod iter next object
type Exception ValueError TypeError KeyError IndexError LookupError ZeroDivisionError ArithmeticError OverflowError
RuntimeError NotImplementedError AttributeError StopIteration NotImplemented""".split()
LIBRARY = {
    "heapq": "heappush heappop heapify heapreplace heappushpop", "math": "gcd lcm isqrt comb perm factorial",
    "itertools": "product combinations permutations chain accumulate pairwise islice zip_longest",
    "collections": "defaultdict deque",
}
METHODS = """__init__ __eq__ __repr__ __str__ __len__ __enter__ __exit__ __call__ __iter__ __lt__ __le__ __gt__ __ge__
__ne__ __add__ __sub__ __mul__ __floordiv__ __mod__ __and__ __or__ __xor__ __neg__ __bool__ __contains__ __getitem__
__setitem__""".split()
BARRED = """mro elements open input law version_info with_traceback add_note typing enum Generic Protocol ABC namedtuple
NamedTuple TypedDict abstractmethod eval exec globals locals vars compile""".split()


def files():
    """The paths of all files of the package, with their texts."""
    found = {}
    for folder, folders, names in os.walk(PACKAGE):
        folders[:] = [name for name in folders if name != "__pycache__"]
        for name in names:
            path = os.path.join(folder, name)
            with open(path, encoding="ascii", newline="") as file:
                found[path] = file.read()
    return found


def is_plain(node):
    """Whether an expression at module level is written out: literals, and lists, tuples, dicts of them."""
    return not any(isinstance(part, (ast.Call, ast.Lambda, ast.ListComp, ast.Set)) for part in ast.walk(node))


class LanguageTest(unittest.TestCase):
    def setUp(self):
        self.texts = files()
        self.trees = {path: ast.parse(text) for path, text in self.texts.items()}

    def nodes(self, *kinds):
        for path, tree in self.trees.items():
            for node in ast.walk(tree):
                if isinstance(node, kinds):
                    yield path, node

    def test_files_and_characters(self):
        for path, text in self.texts.items():
            self.assertRegex(os.path.basename(path), r"\A[a-z0-9_]+\.py\Z")
            self.assertRegex(text, r"\A[ -~\n]*\Z")

    def test_sizes(self):
        for path, text in self.texts.items():
            self.assertLessEqual(text.count("\n"), 399, path)
            self.assertLessEqual(max(map(len, text.split("\n"))), 120, path)
        for path, node in self.nodes(ast.FunctionDef):
            self.assertLessEqual(node.end_lineno - node.lineno + 1, 40, (path, node.name))

    def test_imports(self):
        for path, node in self.nodes(ast.Import, ast.ImportFrom):
            self.assertIsInstance(node, ast.ImportFrom, path)
            self.assertEqual(node.level, 0, path)
            for name in [part.name for part in node.names]:
                if node.module in LIBRARY:
                    self.assertIn(name, LIBRARY[node.module].split())
                else:
                    self.assertTrue(node.module.startswith("nearsettled."), (path, node.module))
                    made = getattr(importlib.import_module(node.module), name)
                    self.assertEqual(getattr(made, "__module__", node.module), node.module, (path, name))

    def test_module_level(self):
        for path, tree in self.trees.items():
            bound = []
            for node in tree.body:
                if isinstance(node, ast.Assign):
                    self.assertTrue(is_plain(node.value), (path, node.lineno))
                    bound += [target.id for target in node.targets]
                elif isinstance(node, (ast.FunctionDef, ast.ClassDef)):
                    bound.append(node.name)
                elif isinstance(node, ast.ImportFrom):
                    bound += [part.asname or part.name for part in node.names]
                else:
                    self.assertIsInstance(node, ast.Expr, (path, node.lineno))
                    self.assertIsInstance(node.value, ast.Constant, (path, node.lineno))
            self.assertEqual(len(bound), len(set(bound)), path)

    def test_builtins_and_words(self):
        for path, node in self.nodes(ast.Name):
            if hasattr(builtins, node.id):
                self.assertIn(node.id, BUILTINS, (path, node.lineno))
                self.assertIsInstance(node.ctx, ast.Load, (path, node.lineno))
            self.assertNotIn(node.id, BARRED, (path, node.lineno))
        for path, node in self.nodes(ast.arg):
            self.assertFalse(hasattr(builtins, node.arg), (path, node.lineno))

    def test_statements_and_values(self):
        barred = (ast.AsyncFunctionDef, ast.Global, ast.TryStar, ast.Await, ast.Div)
        self.assertEqual([(path, node) for path, node in self.nodes(*barred)], [])
        for path, node in self.nodes(ast.Constant):
            self.assertNotIsInstance(node.value, (float, complex), (path, node.lineno))

    def test_iterated_at_once(self):
        takers = "list tuple dict sorted sum any all enumerate zip min max len".split()
        for path, tree in self.trees.items():
            right = []
            for node in ast.walk(tree):
                if isinstance(node, (ast.For, ast.comprehension)):
                    right.append(node.iter)
                elif isinstance(node, ast.Call) and isinstance(node.func, ast.Name) and node.func.id in takers:
                    right += node.args
            for node in ast.walk(tree):
                name = node.func if isinstance(node, ast.Call) else None
                if (isinstance(name, ast.Name) and name.id in "range zip enumerate reversed map".split()
                        or isinstance(name, ast.Attribute) and name.attr in "items keys values".split()):
                    self.assertIn(node, right, (path, node.lineno))

    def test_what_getitem_asks_for(self):
        for path, text in self.texts.items():
            for word in ("(type)", "Meta", "metaclass="):
                self.assertNotIn(word, text, path)
        for path, node in self.nodes(ast.ClassDef):
            names = [part.name for part in node.body if isinstance(part, ast.FunctionDef)]
            if "__getitem__" in names:
                self.assertIn("__iter__", names, path)
            self.assertNotIn("keys", names, path)

    def test_annotations_signs_and_strings(self):
        for path, node in self.nodes(ast.arg):
            self.assertIsNone(node.annotation, (path, node.lineno))
        self.assertEqual([path for path, _ in self.nodes(ast.Invert, ast.GeneratorExp, ast.NamedExpr)], [])
        for path, node in self.nodes(ast.Constant):
            if isinstance(node.value, str):
                self.assertNotIn("%", node.value, (path, node.lineno))

    def test_names_that_mean_one_thing(self):
        for path, tree in self.trees.items():
            taken = [part.asname or part.name for node in tree.body if isinstance(node, ast.ImportFrom)
                     for part in node.names]
            taken += [node.name for node in tree.body if isinstance(node, ast.ClassDef)]
            for node in ast.walk(tree):
                if isinstance(node, ast.arg):
                    self.assertNotIn(node.arg, taken, (path, node.lineno))
                if isinstance(node, ast.Name) and isinstance(node.ctx, ast.Store):
                    self.assertNotIn(node.id, taken, (path, node.lineno))

    def getters(self):
        """Each property of a class, with the path of its file."""
        for path, node in self.nodes(ast.ClassDef):
            for part in node.body:
                if [ast.unparse(name) for name in getattr(part, "decorator_list", [])] == ["property"]:
                    yield path, part

    def made_under_names(self):
        """Under each name the functions that it may run: functions, what makes objects of a class, and methods."""
        made = {}
        for tree in self.trees.values():
            for node in tree.body:
                if isinstance(node, ast.FunctionDef):
                    made.setdefault(node.name, []).append(node)
                for part in node.body if isinstance(node, ast.ClassDef) else []:
                    if isinstance(part, ast.FunctionDef):
                        name = node.name if part.name == "__init__" else "." + part.name
                        made.setdefault(name, []).append(part)
        return made

    def run_by(self, first):
        """The functions and methods that a function may run, by their names alone, itself among them."""
        made, signs = self.made_under_names(), {ast.Subscript: "getitem", ast.In: "contains", ast.NotIn: "contains",
                                                ast.Eq: "eq", ast.NotEq: "eq", ast.BitAnd: "and", ast.Mult: "mul"}
        found = [first]
        for function in found:
            for node in ast.walk(function):
                names = ["__" + signs[type(node)] + "__"] if type(node) in signs else []
                if isinstance(node, ast.Attribute):
                    names = [node.attr]
                names = ["." + name for name in names]
                if isinstance(node, ast.Name):
                    names = [node.id] + [".__len__"] * (node.id == "len")
                found += [other for name in names for other in made.get(name, []) if other not in found]
        return found

    def test_methods_properties_and_attributes(self):
        properties = {node.name for _, node in self.getters()}
        methods = {part.name for _, node in self.nodes(ast.ClassDef) for part in node.body
                   if isinstance(part, ast.FunctionDef)
                   and [ast.unparse(name) for name in part.decorator_list] in ([], ["staticmethod"], ["classmethod"])}
        stored = {node.attr for _, node in self.nodes(ast.Attribute) if not isinstance(node.ctx, ast.Load)}
        self.assertEqual((methods & properties, methods & stored), (set(), set()))
        # Neither assigned nor with setters: by its name, what a class assigns would run the setter of another class.
        self.assertEqual(properties & stored, set())
        self.assertLessEqual({"book", "places", "puzzle", "rows"}, properties)

    def test_properties_have_no_setters(self):
        for path, node in self.nodes(ast.FunctionDef):
            for decorator in node.decorator_list:
                self.assertIn(ast.unparse(decorator), ["property", "staticmethod", "classmethod"], (path, node.lineno))

    def check_changes_nothing(self, node):
        """That a function assigns no attribute or item but those of its new object, and calls no methods."""
        for part in ast.walk(node):
            place = (node.name, getattr(part, "lineno", None))
            self.assertNotIsInstance(part, (ast.AugAssign, ast.Delete), place)
            if isinstance(part, (ast.Attribute, ast.Subscript)) and not isinstance(part.ctx, ast.Load):
                self.assertEqual((node.name, ast.unparse(part.value)), ("__init__", "self"), place)
            if isinstance(part, ast.Call) and isinstance(part.func, ast.Attribute):
                self.assertEqual(ast.unparse(part.func), "super().__init__", place)

    def test_properties_change_nothing(self):
        for path, getter in self.getters():
            with self.subTest(path, name=getter.name):
                for node in self.run_by(getter):
                    self.check_changes_nothing(node)

    def test_a_property_that_makes_an_object_runs_what_makes_it(self):
        found = [self.run_by(getter) for _, getter in self.getters() if getter.name == "puzzle"]
        self.assertEqual(len(found), 1)
        names = [node.name for node in found[0]]
        self.assertLessEqual({"__init__", "is_use", "is_between", "__getitem__", "__contains__", "__len__"}, set(names))

    def test_names(self):
        for path, node in self.nodes(ast.FunctionDef):
            if node.name not in METHODS:
                self.assertRegex(node.name, r"\A_?[A-Za-z][A-Za-z0-9_]*\Z", path)
        for path, node in self.nodes(ast.Attribute):
            self.assertNotIn(node.attr, ["mro", "elements", "open", "input", "law", "format", "sort"], path)


if __name__ == "__main__":
    unittest.main()
