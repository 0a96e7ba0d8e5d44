"""The plainest rules of the language in which the package is written: files, imports, sizes, characters."""

import ast
import builtins
import pathlib
import unittest

import heldby

PACKAGE = pathlib.Path(heldby.__file__).parent
FILES = sorted(path for path in PACKAGE.rglob("*") if path.is_file() and "__pycache__" not in path.parts)
LIBRARY = {"heapq", "math", "itertools", "collections", "__future__"}
BUILTINS = set(
    "len range enumerate zip min max sum abs sorted reversed int str bool bytes list tuple dict set frozenset"
    " isinstance ord repr any all divmod pow getattr hasattr setattr iter next map super property staticmethod"
    " classmethod object Exception ValueError TypeError KeyError IndexError LookupError ZeroDivisionError"
    " ArithmeticError OverflowError RuntimeError NotImplementedError AttributeError StopIteration NotImplemented".split()
)


class LanguageTest(unittest.TestCase):
    def trees(self):
        for path in FILES:
            yield path, ast.parse(path.read_text(encoding="utf-8"))

    def test_files(self):
        self.assertGreater(len(FILES), 4)
        for path in FILES:
            self.assertEqual((path.suffix, path.name), (".py", path.name.lower()))
            text = path.read_text(encoding="utf-8")
            rows = text.splitlines()
            self.assertTrue(set(text) <= {"\n", *map(chr, range(32, 127))}, path)
            self.assertLessEqual(len(rows), 399, path)
            self.assertLessEqual(max(map(len, rows)), 120, path)

    def test_functions_have_at_most_40_lines(self):
        for path, tree in self.trees():
            for node in ast.walk(tree):
                if isinstance(node, ast.FunctionDef):
                    self.assertLessEqual(node.end_lineno - node.lineno + 1, 40, (path, node.name))

    def test_imports(self):
        for path, tree in self.trees():
            for node in ast.walk(tree):
                self.assertNotIsInstance(node, ast.Import, path)
                if isinstance(node, ast.ImportFrom):
                    self.assertEqual(node.level, 0, path)
                    self.assertIn(node.module.split(".")[0], {"heldby", *LIBRARY}, path)

    def test_builtins(self):
        others = set(dir(builtins)) - BUILTINS
        for path, tree in self.trees():
            for node in ast.walk(tree):
                if isinstance(node, ast.Name):
                    self.assertNotIn(node.id, others, (path, node.lineno))

    def test_each_function_and_class_is_defined_where_it_is_listed(self):
        listed = {
            "statements": ["Statement", "Show", "Add", "Call", "Give", "Either", "Function"], "programs": ["Program"],
        }
        for path, tree in self.trees():
            defined = {node.name for node in tree.body if isinstance(node, (ast.ClassDef, ast.FunctionDef))}
            self.assertTrue(set(listed.get(path.stem, [])) <= defined)
