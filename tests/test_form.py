"""The interface as the document lists it, and what LANGUAGE.md says of the form of the files."""

import ast
import importlib
import inspect
import os
import unittest

ROOT = os.path.dirname(os.path.dirname(os.path.abspath(__file__)))
PACKAGE = os.path.join(ROOT, "solvedtreads")

INTERFACE = {
    "solvedtreads.words": {
        "back": ["word"], "reduced": ["word"], "is_word": ["thing"], "is_place": ["thing"], "behind": ["place", "word"],
    },
    "solvedtreads.treads": {
        "is_tread": ["thing"], "alike": ["word", "other"], "tread_of": ["word"], "rest_word": ["word", "tread"],
        "least_word": ["tread"], "shows_least": ["tread", "thing"],
    },
    "solvedtreads.products": {"product": ["one", "other"], "back_of": ["tread"], "power": ["tread", "e"]},
    "solvedtreads.orders": {
        "treads_all": ["one", "other"], "least_over": ["one", "other"], "common": ["one", "other"],
        "spare_of": ["tread"], "seen_from": ["tread", "place"], "shift_of": ["one", "other"],
    },
    "solvedtreads.roots": {"root_of": ["tread", "e"], "shows_no_root": ["tread", "e"]},
    "solvedtreads.equations": {
        "solutions": ["one", "other", "goal"], "solution_at": ["one", "other", "goal", "number"],
        "number_of": ["one", "other", "goal", "tread"],
    },
    "solvedtreads.makers": {
        "way_of": ["makers", "tread"], "shows_way": ["makers", "tread", "thing"], "why_not": ["makers", "tread"],
        "needless": ["makers"], "same_makers": ["one", "other"],
    },
    "solvedtreads.descents": {"descent": ["word"], "shows_descent": ["word", "thing"]},
    "solvedtreads.wishes": {"trial": ["wishes", "things"]},
}

CLASSES = {
    ("solvedtreads.walks", "Walk"): {
        "__init__": ["self", "word"], "tread": ["self"], "word": ["self"], "covers": ["self", "other"],
    },
    ("solvedtreads.answers", "Answers"): {
        "__init__": ["self", "one", "other", "goal"], "how_many": ["self"], "least": ["self"], "most": ["self"],
        "at": ["self", "number"], "number_of": ["self", "tread"], "taking": ["self", "place"],
        "barring": ["self", "place"],
    },
    ("solvedtreads.wishes", "Wishes"): {
        "__init__": ["self", "answers"], "must": ["self", "place"], "bar": ["self", "place"], "undo": ["self"],
        "left": ["self"], "state": ["self"], "open_place": ["self"],
    },
}

OPERATORS = {
    ("solvedtreads.walks", "Walk"): [
        "__len__", "__contains__", "__eq__", "__mul__", "__invert__", "__pow__", "__or__", "__and__", "__imul__",
        "__ipow__", "__ior__", "__iand__",
    ],
    ("solvedtreads.answers", "Answers"): ["__contains__", "__eq__", "__and__", "__invert__", "__iand__"],
    ("solvedtreads.wishes", "Wishes"): ["__len__", "__enter__", "__exit__"],
}

BARRED = (
    ast.GeneratorExp, ast.Lambda, ast.Set, ast.AsyncFunctionDef, ast.Await, ast.Global, ast.Div, ast.TryStar,
    ast.AnnAssign,
)


def package_files():
    """Return the paths of all files in the package's folder, but for what Python keeps there."""
    return [os.path.join(PACKAGE, name) for name in sorted(os.listdir(PACKAGE)) if name != "__pycache__"]


def parsed_files():
    """Return the path and the tree of each file."""
    rows = []
    for path in package_files():
        with open(path, encoding="ascii") as file:
            rows.append((path, ast.parse(file.read())))
    return rows


class InterfaceTest(unittest.TestCase):
    def test_names_and_arguments(self):
        for module_name, functions in INTERFACE.items():
            module = importlib.import_module(module_name)
            for name, arguments in functions.items():
                with self.subTest(name=name):
                    function = getattr(module, name)
                    self.assertEqual(function.__module__, module_name)
                    parameters = inspect.signature(function).parameters.values()
                    self.assertEqual([parameter.name for parameter in parameters], arguments)
                    for parameter in parameters:
                        self.assertEqual(parameter.kind, parameter.POSITIONAL_OR_KEYWORD)
                        self.assertIs(parameter.default, parameter.empty)


class ClassesTest(unittest.TestCase):
    def test_methods_and_arguments(self):
        for (module_name, name), methods in CLASSES.items():
            made = getattr(importlib.import_module(module_name), name)
            self.assertEqual(made.__module__, module_name)
            for method, arguments in methods.items():
                with self.subTest(name=name, method=method):
                    # Each one stands in the class itself.
                    parameters = inspect.signature(vars(made)[method]).parameters.values()
                    self.assertEqual([parameter.name for parameter in parameters], arguments)
                    for parameter in parameters:
                        self.assertEqual(parameter.kind, parameter.POSITIONAL_OR_KEYWORD)
                        self.assertIs(parameter.default, parameter.empty)

    def test_operators_and_properties(self):
        for (module_name, name), methods in OPERATORS.items():
            made = getattr(importlib.import_module(module_name), name)
            for method in methods:
                self.assertIn(method, vars(made))
        walk = importlib.import_module("solvedtreads.walks").Walk
        for name in ("places", "end"):
            self.assertIsInstance(vars(walk)[name], property)


class FilesTest(unittest.TestCase):
    def test_only_plain_files(self):
        for path in package_files():
            self.assertRegex(os.path.basename(path), r"^[a-z0-9_]+\.py$")

    def test_sizes_and_characters(self):
        for path in package_files():
            with open(path, "rb") as file:
                data = file.read()
            lines = data.split(b"\n")
            self.assertLessEqual(len(lines), 400, path)
            self.assertLessEqual(max(len(line) for line in lines), 120, path)
            self.assertTrue(all(sign == 10 or 32 <= sign <= 126 for sign in data), path)

    def test_functions_are_small(self):
        for path, tree in parsed_files():
            for node in ast.walk(tree):
                if isinstance(node, ast.FunctionDef):
                    self.assertLessEqual(node.end_lineno - node.lineno + 1, 40, (path, node.name))

    def test_imports_name_the_file_that_defines(self):
        for path, tree in parsed_files():
            for node in ast.walk(tree):
                self.assertNotIsInstance(node, ast.Import, path)
                if isinstance(node, ast.ImportFrom):
                    self.assertIn(node, tree.body, path)
                    self.assertTrue(node.module.startswith("solvedtreads."), path)
                    self.assertEqual(node.level, 0, path)
                    for name in node.names:
                        self.assertIsNone(name.asname, path)
                        self.assertIn(name.name, defined_names(node.module))

    def test_barred_forms(self):
        for path, tree in parsed_files():
            for node in ast.walk(tree):
                self.assertNotIsInstance(node, BARRED, path)
                if isinstance(node, ast.Starred):
                    self.assertIsInstance(node.value, ast.Name, path)
                if isinstance(node, ast.Constant):
                    self.assertNotIsInstance(node.value, (float, complex), path)


def defined_names(module_name):
    """Return the names that a module of the package defines itself."""
    path = os.path.join(ROOT, *module_name.split(".")) + ".py"
    with open(path, encoding="ascii") as file:
        tree = ast.parse(file.read())
    names = []
    for node in tree.body:
        if isinstance(node, (ast.FunctionDef, ast.ClassDef)):
            names.append(node.name)
        elif isinstance(node, ast.Assign):
            names.append(node.targets[0].id)
    return names


if __name__ == "__main__":
    unittest.main()
