"""The names of the interface, where they stand, and the plainer rules of the language."""

import ast
import pathlib
import re
import unittest

from versionshelf.shelf import Shelf

PACKAGE = pathlib.Path(__file__).resolve().parent.parent / "versionshelf"

METHODS = {
    "begin": ["branch"],
    "twin": ["hand"],
    "fork": ["hand"],
    "drop": ["branch"],
    "close": ["hand"],
    "look": ["hand", "key"],
    "keys": ["hand"],
    "differ": ["one", "other"],
    "write": ["hand", "key", "value"],
    "erase": ["hand", "key"],
    "commit": ["hand"],
    "sweep": ["most"],
    "cells": [],
    "reason": ["branch", "key", "born"],
    "marked": [],
    "standing": [],
}
ERRORS = ["ShelfError", "BadKey", "NoHand", "NoBranch", "Dropped", "Clash", "NoCell", "BadText"]
BARRED = "type typing enum Enum Flag Generic Protocol ABC namedtuple dataclass overload contextmanager global async"
CALLED = "open input print eval exec compile getattr setattr hasattr vars globals locals chr map filter round hash id"


def tree_of(name):
    return ast.parse((PACKAGE / name).read_text(encoding="ascii"))


def parameters(function):
    return [given.arg for given in function.args.args]


class InterfaceTest(unittest.TestCase):
    def test_errors(self):
        classes = [node.name for node in tree_of("errors.py").body if isinstance(node, ast.ClassDef)]
        self.assertEqual(sorted(classes), sorted(ERRORS))

    def test_shelf(self):
        shelf = next(node for node in tree_of("shelf.py").body if isinstance(node, ast.ClassDef))
        self.assertEqual(shelf.name, "Shelf")
        found = {node.name: parameters(node)[1:] for node in shelf.body if isinstance(node, ast.FunctionDef)}
        for name, given in METHODS.items():
            self.assertEqual(found[name], given)
        self.assertEqual(found["__init__"], [])
        self.assertEqual(vars(Shelf())["now"], 0)

    def test_texts(self):
        found = {node.name: parameters(node) for node in tree_of("texts.py").body if isinstance(node, ast.FunctionDef)}
        self.assertEqual((found["written"], found["read"]), (["shelf"], ["text"]))


class LanguageTest(unittest.TestCase):
    def files(self):
        return sorted(PACKAGE.glob("*.py"))

    def test_sizes_and_signs(self):
        for file in self.files():
            text = file.read_bytes().decode("ascii")
            self.assertLess(len(text.splitlines()), 400)
            self.assertLessEqual(max([len(line) for line in text.splitlines()]), 120)
            self.assertTrue(all(sign == "\n" or " " <= sign <= "~" for sign in text), file)
            self.assertNotIn("%", text)
            for node in ast.walk(ast.parse(text)):
                if isinstance(node, ast.FunctionDef):
                    self.assertLessEqual(node.end_lineno - node.lineno + 1, 40)

    def test_nothing_else_in_the_folder(self):
        names = [path.name for path in PACKAGE.iterdir() if path.name != "__pycache__"]
        self.assertEqual(sorted(names), [file.name for file in self.files()])
        self.assertIn("__init__.py", names)

    def test_words(self):
        for file in self.files():
            words = set(re.findall(r"\w+", file.read_text(encoding="ascii")))
            self.assertEqual(words & set(BARRED.split()), set(), file)
            for node in ast.walk(ast.parse(file.read_text(encoding="ascii"))):
                if isinstance(node, ast.Call) and isinstance(node.func, ast.Name):
                    self.assertNotIn(node.func.id, CALLED.split())

    def test_imports(self):
        for file in self.files():
            for node in ast.walk(ast.parse(file.read_text(encoding="ascii"))):
                self.assertNotIsInstance(node, ast.Import)
                if isinstance(node, ast.ImportFrom):
                    self.assertEqual((node.level, node.module.split(".")[0]), (0, "versionshelf"))
                    source = tree_of(node.module.split(".")[1] + ".py")
                    defined = [row.name for row in source.body if isinstance(row, (ast.ClassDef, ast.FunctionDef))]
                    for given in node.names:
                        self.assertIn(given.name, defined)


if __name__ == "__main__":
    unittest.main()
