"""The rules of the language in which the package is written, as far as they are easily looked at."""

import ast
import pathlib
import unittest

import heldby
from tests import language

PACKAGE = pathlib.Path(heldby.__file__).parent
FILES = sorted(path for path in PACKAGE.rglob("*") if path.is_file() and "__pycache__" not in path.parts)
TEXTS = {f"heldby/{path.relative_to(PACKAGE)}": path.read_text(encoding="utf-8") for path in FILES}

BOX = """class Box:
    def __init__(self):
        self._many = 1
    @property
    def many(self):
        return self._many
"""
SETTER = """    @many.setter
    def many(self, value):
        self._many = value
"""
OTHER = """class Other:
    def __init__(self):
        ROW
"""


class LanguageTest(unittest.TestCase):
    def trees(self):
        for path, text in TEXTS.items():
            yield path, ast.parse(text)

    def test_files(self):
        self.assertGreater(len(FILES), 4)
        for path in FILES:
            self.assertEqual((path.suffix, path.name), (".py", path.name.lower()))
        for path, text in TEXTS.items():
            rows = text.splitlines()
            self.assertTrue(set(text) <= {"\n", *map(chr, range(32, 127))}, path)
            self.assertLessEqual(len(rows), 399, path)
            self.assertLessEqual(max(map(len, rows)), 120, path)

    def test_functions_have_at_most_40_lines(self):
        for path, tree in self.trees():
            for node in ast.walk(tree):
                if isinstance(node, ast.FunctionDef):
                    self.assertLessEqual(node.end_lineno - node.lineno + 1, 40, (path, node.name))

    def test_no_faults(self):
        for look in (
            language.property_faults, language.name_faults, language.attribute_faults, language.form_faults,
            language.loop_faults, language.import_faults,
        ):
            with self.subTest(look.__name__):
                self.assertEqual(look(TEXTS), [])

    def test_each_function_and_class_is_defined_where_it_is_listed(self):
        listed = {
            "statements": "Statement Show Add Call Give Either Function", "programs": "Program",
            "keepers": "points Keeper Plain Told", "layouts": "Layout",
            "worlds": "stack_at held_at kept_at count_moments shows_of",
            "comparing": "keeps_no_more compared is_compared excesses",
        }
        self.assertLessEqual({f"heldby/{stem}.py" for stem in listed}, set(TEXTS))
        for path, tree in self.trees():
            defined = {node.name for node in tree.body if isinstance(node, (ast.ClassDef, ast.FunctionDef))}
            self.assertLessEqual(set(listed.get(pathlib.Path(path).stem, "").split()), defined)


class PropertyTest(unittest.TestCase):
    def faults(self, *texts):
        found = language.property_faults({f"{at}.py": text for at, text in enumerate(texts)})
        return [(path, name) for path, _, name in found]

    def test_the_package_has_properties_and_none_is_assigned(self):
        trees = language.trees_of(TEXTS)
        properties = language.properties_of(trees)
        self.assertLessEqual({"main", "functions", "used"}, set(properties))
        assigned = {name for _, _, name in language.assigned_attributes(trees)}
        self.assertEqual([name for name in properties if not properties[name] and name in assigned], [])

    def test_assignments_are_found(self):
        self.assertEqual(self.faults(BOX), [])
        for row in (
            "self.many = 1", "self.many += 1", "a, self.many = 1, 2", "[self.many] = [1]", "a = self.many = 1",
            "self.many: int = 1", "del self.many", "setattr(self, 'many', 1)", "a.b.many = 1", "a[0].many = 1",
            "(self.many, (b, c)) = d", "for self.many in a: pass", "with a as self.many: pass",
        ):
            with self.subTest(row):
                other = OTHER.replace("ROW", row)
                self.assertEqual(self.faults(BOX, other), [("1.py", "many")])
                self.assertEqual(self.faults(other), [])
                # With a setter it may be assigned, if each class that has the property has one.
                self.assertEqual(self.faults(BOX + SETTER, other), [])
                self.assertEqual(self.faults(BOX + SETTER, BOX, other), [("2.py", "many")])

    def test_reading_is_no_fault(self):
        reading = "def told(box):\n    many = box.many\n    box.few = many\n    return box.many\n"
        self.assertEqual(self.faults(BOX, reading), [])

    def test_methods_of_the_name_are_found(self):
        self.assertEqual(self.faults(BOX, "class Other:\n    def many(self):\n        return 1\n"), [("1.py", "many")])

    def test_a_setter_in_one_class_only(self):
        assigning = "def told(box):\n    box.many = 1\n"
        self.assertEqual(self.faults(BOX + SETTER, assigning), [])
        self.assertEqual(self.faults(BOX + SETTER, BOX, assigning), [("2.py", "many")])
        self.assertEqual(self.faults(BOX, BOX + SETTER, assigning), [("2.py", "many")])


class LooksTest(unittest.TestCase):
    """That the looks at the package find what they look for."""

    def found(self, look, text):
        return [name for _, _, name in look({"heldby/a.py": text})]

    def test_names(self):
        for text in ("def open(a):\n    return a\n", "open = 1\n", "def f(id):\n    return id\n",
            "def f():\n    len = 1\n"):
            self.assertNotEqual(self.found(language.name_faults, text), [])
        self.assertEqual(self.found(language.name_faults, OTHER.replace("ROW", "self.items = 1")), ["items"])
        self.assertEqual(self.found(language.name_faults, "class Box:\n    pass\ndef f(Box):\n    return Box\n"),
            ["Box"])
        self.assertEqual(self.found(language.name_faults, "from heldby.b import c\ndef c():\n    return 1\n"), ["c"])

    def test_attributes(self):
        self.assertEqual(self.found(language.attribute_faults, "def f(a):\n    return a.b\n"), ["b"])
        self.assertEqual(self.found(language.attribute_faults, "def f(a):\n    a.b = 1\n    return a.b()\n"), ["b"])
        self.assertEqual(self.found(language.attribute_faults, "class A:\n    def b(self):\n        self.b = 1\n"),
            ["b"])

    def test_forms(self):
        for row in ("any(b for b in a)", "1 / 2", "1.5", "a is b", "'50%'", "Box.at(a)"):
            self.assertEqual(len(self.found(language.form_faults, f"def f(a, b):\n    c = [{row}]\n")), 1, row)
        for row in ("zip(a, b)", "set(a)", "a.items()", "range(3)"):
            self.assertEqual(len(self.found(language.form_faults, f"def f(a, b):\n    c = {row}\n")), 1, row)

    def test_loops(self):
        for row in ("a.append(b)", "a[b] = 1", "del a[b]", "heappush(a, b)"):
            for head in ("b in a", "b in reversed(a)", "b, c in a.items()", "b, c in enumerate(a)"):
                self.assertEqual(len(self.found(language.loop_faults, f"def f(a):\n    for {head}:\n        {row}\n")),
                    1)
        self.assertEqual(self.found(language.loop_faults, "def f(a, c):\n    for b in a:\n        c.append(b)\n"), [])

    def test_imports(self):
        texts = {"heldby/a.py": "from heldby.b import b\na = 1\n", "heldby/b.py": "from heldby.a import a\nb = 1\n"}
        self.assertEqual([name for _, _, name in language.import_faults(texts)], ["circle", "circle"])
        texts["heldby/b.py"] = "b = 1\n"
        self.assertEqual(language.import_faults(texts), [])
        texts["heldby/b.py"] = "c = 1\n"
        self.assertEqual([name for _, _, name in language.import_faults(texts)], ["b"])
        self.assertEqual(self.found(language.import_faults, "from random import random\n"), ["random"])


if __name__ == "__main__":
    unittest.main()
