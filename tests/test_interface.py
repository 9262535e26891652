"""Tests of the interface's names and files, and of what the package is built from."""

import ast
import importlib
import inspect
import pathlib
import unittest

from pairrules import errors

PACKAGE = pathlib.Path(errors.__file__).parent

FUNCTIONS = {
    "pairrules.books": {
        "need_book": ["book"], "lengths": ["book"], "length": ["book"], "depth": ["book"],
        "uses": ["book"], "written_out": ["book"],
    },
    "pairrules.making": {"made": ["text"]},
    "pairrules.looking": {"sign_at": ["book", "place"], "cut": ["book", "start", "end"]},
    "pairrules.searching": {"how_often": ["book", "word"], "first_place": ["book", "word"]},
    "pairrules.notes": {"shown": ["book"], "read": ["line"]},
}

REFUSALS = ["NoBook", "NoText", "NoPlace", "NoWord"]

# What the language lets the package import besides its own modules: no clock, no
# chance and no files are among it.
LIBRARY = ["__future__", "collections", "heapq", "itertools", "math"]

OUTSIDE = ["open", "input", "print", "eval", "exec", "compile", "__import__", "globals", "id", "hash"]


class ErrorsTest(unittest.TestCase):
    """The classes of pairrules/errors.py."""

    def test_any_refusal_is_a_value_error(self):
        self.assertEqual(errors.BookError.__bases__, (ValueError,))

    def test_refusals_stand_straight_under_book_error(self):
        for name in REFUSALS:
            refusal = getattr(errors, name)
            self.assertEqual(refusal.__bases__, (errors.BookError,))
            self.assertEqual(refusal.__module__, "pairrules.errors")

    def test_no_refusal_is_another_one(self):
        for name in REFUSALS:
            for other in REFUSALS:
                if name != other:
                    self.assertFalse(issubclass(getattr(errors, name), getattr(errors, other)))


class FunctionsTest(unittest.TestCase):
    """The functions of the interface: their names, arguments and files."""

    def test_names_arguments_and_files(self):
        for module, functions in FUNCTIONS.items():
            for name, arguments in functions.items():
                function = getattr(importlib.import_module(module), name)
                self.assertEqual(list(inspect.signature(function).parameters), arguments)
                self.assertEqual(function.__module__, module)

    def test_kinds_of_the_answers(self):
        making = importlib.import_module("pairrules.making")
        books = importlib.import_module("pairrules.books")
        book = making.made("abcabc")
        self.assertEqual([type(part) for part in (book, *book)], [tuple, list, list])
        self.assertEqual([type(rule) for rule in book[0]], [tuple, tuple])
        kinds = [type(ask(book)) for ask in (books.lengths, books.length, books.depth, books.uses, books.written_out)]
        self.assertEqual(kinds, [list, int, int, list, str])
        self.assertIs(type(books.depth(([], []))), int)
        self.assertIs(type(books.length(([], []))), int)


class BuildTest(unittest.TestCase):
    """Point 1: no clock, no chance, no files, no outside package."""

    def trees(self):
        for path in sorted(PACKAGE.rglob("*.py")):
            yield path.name, ast.parse(path.read_text(encoding="utf-8"))

    def test_imports(self):
        for file, tree in self.trees():
            for node in ast.walk(tree):
                self.assertNotIsInstance(node, ast.Import, file)
                if isinstance(node, ast.ImportFrom):
                    self.assertEqual(node.level, 0, file)
                    self.assertIn(node.module.split(".")[0], ["pairrules"] + LIBRARY, file)

    def test_nothing_reaches_outside(self):
        for file, tree in self.trees():
            names = [node.id for node in ast.walk(tree) if isinstance(node, ast.Name)]
            self.assertEqual([name for name in names if name in OUTSIDE], [], file)


if __name__ == "__main__":
    unittest.main()
