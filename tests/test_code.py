"""Some rules for the code of the package that a test can see: sizes, characters, imports, builtins."""

import ast
import pathlib
import unittest

PACKAGE = pathlib.Path(__file__).parent.parent / "shortheld"
LIBRARY = {"heapq", "math", "itertools", "collections"}


class TestCode(unittest.TestCase):
    def files(self):
        paths = sorted(PACKAGE.rglob("*.py"))
        self.assertTrue(paths)
        for path in paths:
            text = path.read_text(encoding="utf-8")
            yield path.name, text, ast.parse(text)

    def test_sizes(self):
        for name, text, tree in self.files():
            lines = text.split("\n")
            self.assertLessEqual(len(lines), 399, name)
            self.assertLessEqual(max(len(line) for line in lines), 120, name)
            for node in ast.walk(tree):
                if isinstance(node, ast.FunctionDef):
                    self.assertLessEqual(node.end_lineno - node.lineno + 1, 40, (name, node.name))

    def test_characters(self):
        for name, text, tree in self.files():
            self.assertTrue(all(letter == "\n" or " " <= letter <= "~" for letter in text), name)
            for node in ast.walk(tree):
                if isinstance(node, ast.Constant) and isinstance(node.value, str):
                    self.assertNotIn("%", node.value, name)
                self.assertFalse(isinstance(node, ast.Constant) and isinstance(node.value, float), name)
                self.assertFalse(isinstance(node, ast.Div), name)

    def test_imports(self):
        for name, text, tree in self.files():
            for node in ast.walk(tree):
                self.assertNotIsInstance(node, ast.Import, name)
                if isinstance(node, ast.ImportFrom):
                    self.assertEqual(node.level, 0, name)
                    self.assertIn(node.module.split(".")[0], LIBRARY | {"shortheld"}, name)
