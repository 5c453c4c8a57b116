"""That the package keeps the limits of its language that can be read off its files."""

import ast
import builtins
import unittest
from pathlib import Path

PACKAGE = Path(__file__).resolve().parent.parent / "cachebet"
FILES = sorted(PACKAGE.rglob("*.py"))
LIBRARY = ("heapq", "math", "itertools", "collections")
BUILTINS = ("len range enumerate zip min max sum abs sorted reversed int str bool list tuple dict set isinstance ord "
            "repr any all divmod pow iter next map Exception ValueError TypeError KeyError IndexError LookupError "
            "ZeroDivisionError RuntimeError StopIteration NotImplemented super property staticmethod "
            "classmethod").split()
BARRED = ("register mro elements open input law version_info with_traceback add_note attrgetter breakpoint builtins "
          "compile copyright credits delattr dir eval exec exit gc getattr globals hasattr help id importlib license "
          "locals methodcaller os quit setattr super type vars sys").split()
STATEMENTS = (ast.Global, ast.AsyncFunctionDef, ast.AsyncFor, ast.AsyncWith)


class TestLanguage(unittest.TestCase):
    def each_tree(self):
        for file in FILES:
            yield file.name, ast.parse(file.read_text(encoding="ascii"))

    def test_there_is_nothing_but_python_files(self):
        names = [path.name for path in PACKAGE.rglob("*") if "__pycache__" not in str(path) and path.is_file()]
        self.assertEqual(sorted(names), sorted(file.name for file in FILES))

    def test_characters_and_sizes(self):
        for file in FILES:
            text = file.read_bytes().decode("ascii")
            self.assertTrue(all(sign == "\n" or " " <= sign <= "~" for sign in text), file.name)
            self.assertLessEqual(len(text.splitlines()), 399, file.name)
            self.assertLessEqual(max([len(line) for line in text.splitlines()]), 120, file.name)

    def test_functions_have_at_most_forty_lines(self):
        for name, tree in self.each_tree():
            for node in ast.walk(tree):
                if isinstance(node, ast.FunctionDef):
                    self.assertLessEqual(node.end_lineno - node.lineno + 1, 40, (name, node.name))

    def test_imports(self):
        for name, tree in self.each_tree():
            for node in ast.walk(tree):
                self.assertNotIsInstance(node, ast.Import, name)
                if isinstance(node, ast.ImportFrom):
                    self.assertEqual(node.level, 0, name)
                    self.assertIn(node.module.split(".")[0], ("cachebet",) + LIBRARY, name)

    def test_statements_and_values(self):
        for name, tree in self.each_tree():
            for node in ast.walk(tree):
                self.assertNotIsInstance(node, STATEMENTS, name)
                if isinstance(node, ast.Constant):
                    self.assertNotIsInstance(node.value, float, name)
                    self.assertFalse(isinstance(node.value, str) and "%" in node.value, name)

    def test_builtins(self):
        known = set(dir(builtins))
        for name, tree in self.each_tree():
            for node in ast.walk(tree):
                if isinstance(node, ast.Name) and node.id in known:
                    self.assertIsInstance(node.ctx, ast.Load, (name, node.id))
                    self.assertIn(node.id, BUILTINS, name)
                elif isinstance(node, ast.arg):
                    self.assertNotIn(node.arg, known, name)

    def test_names_that_are_not_used(self):
        for name, tree in self.each_tree():
            for word in all_names(tree):
                self.assertNotIn(word, BARRED, name)
                self.assertFalse(word.startswith("__") and word != "__init__", (name, word))

    def test_no_local_has_the_name_of_an_import_or_a_class(self):
        for name, tree in self.each_tree():
            taken = {alias.name for node in tree.body if isinstance(node, ast.ImportFrom) for alias in node.names}
            taken |= {node.name for node in tree.body if isinstance(node, ast.ClassDef)}
            self.assertFalse(taken & set(local_names(tree)), name)

    def test_no_attribute_is_a_method_or_one_of_a_builtin_value(self):
        methods, attributes = set(), set()
        for _, tree in self.each_tree():
            for node in ast.walk(tree):
                if isinstance(node, ast.ClassDef):
                    methods |= {part.name for part in node.body if isinstance(part, ast.FunctionDef)}
                if isinstance(node, ast.Attribute) and isinstance(node.ctx, ast.Store):
                    attributes.add(node.attr)
        for value in (0, "", (), [], {}, set(), b""):
            self.assertFalse((methods | attributes) & set(dir(value)) - {"__init__"})
        self.assertFalse(methods & attributes)

    def test_no_two_files_import_from_each_other(self):
        imports = {}
        for name, tree in self.each_tree():
            modules = {node.module for node in ast.walk(tree) if isinstance(node, ast.ImportFrom)}
            imports[name] = {module.split(".")[1] + ".py" for module in modules if module.startswith("cachebet.")}
        while imports:
            leaves = [name for name in imports if not imports[name] & set(imports)]
            self.assertTrue(leaves, imports)
            imports = {name: imports[name] for name in imports if name not in leaves}


def all_names(tree):
    for node in ast.walk(tree):
        for field in ("id", "attr", "arg", "name"):
            word = getattr(node, field, None)
            if isinstance(word, str):
                yield word


def local_names(tree):
    for node in ast.walk(tree):
        if isinstance(node, ast.arg):
            yield node.arg
        if isinstance(node, ast.Name) and isinstance(node.ctx, ast.Store):
            yield node.id


if __name__ == "__main__":
    unittest.main()
