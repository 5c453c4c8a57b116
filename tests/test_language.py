"""That the package keeps the limits of its language that can be read off its files."""

import ast
import builtins
import unittest
from pathlib import Path

PACKAGE = Path(__file__).resolve().parent.parent / "cachebet"
FILES = sorted(PACKAGE.rglob("*.py"))
LIBRARY = ("heapq", "math", "itertools", "collections")
BUILTINS = ("len range enumerate zip min max sum abs sorted reversed int str bool list tuple dict set isinstance ord "
            "repr any all divmod pow iter next map Exception ValueError TypeError KeyError IndexError LookupError "
            "ZeroDivisionError RuntimeError StopIteration NotImplemented super property staticmethod "
            "classmethod").split()
STATEMENTS = (ast.Global, ast.AsyncFunctionDef, ast.AsyncFor, ast.AsyncWith)


class TestLanguage(unittest.TestCase):
    def each_tree(self):
        for file in FILES:
            yield file.name, ast.parse(file.read_text(encoding="ascii"))

    def test_there_is_nothing_but_python_files(self):
        names = [path.name for path in PACKAGE.rglob("*") if "__pycache__" not in str(path) and path.is_file()]
        self.assertEqual(sorted(names), sorted(file.name for file in FILES))

    def test_characters_and_sizes(self):
        for file in FILES:
            text = file.read_bytes().decode("ascii")
            self.assertTrue(all(sign == "\n" or " " <= sign <= "~" for sign in text), file.name)
            self.assertLessEqual(len(text.splitlines()), 399, file.name)
            self.assertLessEqual(max([len(line) for line in text.splitlines()]), 120, file.name)

    def test_functions_have_at_most_forty_lines(self):
        for name, tree in self.each_tree():
            for node in ast.walk(tree):
                if isinstance(node, ast.FunctionDef):
                    self.assertLessEqual(node.end_lineno - node.lineno + 1, 40, (name, node.name))

    def test_imports(self):
        for name, tree in self.each_tree():
            for node in ast.walk(tree):
                self.assertNotIsInstance(node, ast.Import, name)
                if isinstance(node, ast.ImportFrom):
                    self.assertEqual(node.level, 0, name)
                    self.assertIn(node.module.split(".")[0], ("cachebet",) + LIBRARY, name)

    def test_statements_and_values(self):
        for name, tree in self.each_tree():
            for node in ast.walk(tree):
                self.assertNotIsInstance(node, STATEMENTS, name)
                if isinstance(node, ast.Constant):
                    self.assertNotIsInstance(node.value, float, name)
                    self.assertFalse(isinstance(node.value, str) and "%" in node.value, name)

    def test_builtins(self):
        known = set(dir(builtins))
        for name, tree in self.each_tree():
            for node in ast.walk(tree):
                if isinstance(node, ast.Name) and node.id in known:
                    self.assertIsInstance(node.ctx, ast.Load, (name, node.id))
                    self.assertIn(node.id, BUILTINS, name)
                elif isinstance(node, ast.arg):
                    self.assertNotIn(node.arg, known, name)


if __name__ == "__main__":
    unittest.main()
