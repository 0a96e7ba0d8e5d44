"""The rules of the language in which the package is written, as far as they are easily looked at."""

import ast
import pathlib
import unittest

import heldby
from tests import language

PACKAGE = pathlib.Path(heldby.__file__).parent
FILES = sorted(path for path in PACKAGE.rglob("*") if path.is_file() and "__pycache__" not in path.parts)
TEXTS = {f"heldby/{path.relative_to(PACKAGE)}": path.read_text(encoding="utf-8") for path in FILES}

BOX = """class Box:
    def __init__(self):
        self._many = 1
    @property
    def many(self):
        return self._many
"""
SETTER = """    @many.setter
    def many(self, value):
        self._many = value
"""
OTHER = """class Other:
    def __init__(self):
        ROW
"""


class LanguageTest(unittest.TestCase):
    def trees(self):
        for path, text in TEXTS.items():
            yield path, ast.parse(text)

    def test_files(self):
        self.assertGreater(len(FILES), 4)
        for path in FILES:
            self.assertEqual((path.suffix, path.name), (".py", path.name.lower()))
        for path, text in TEXTS.items():
            rows = text.splitlines()
            self.assertTrue(set(text) <= {"\n", *map(chr, range(32, 127))}, path)
            self.assertLessEqual(len(rows), 399, path)
            self.assertLessEqual(max(map(len, rows)), 120, path)

    def test_functions_have_at_most_40_lines(self):
        for path, tree in self.trees():
            for node in ast.walk(tree):
                if isinstance(node, ast.FunctionDef):
                    self.assertLessEqual(node.end_lineno - node.lineno + 1, 40, (path, node.name))

    def test_no_faults(self):
        for look in (
            language.property_faults, language.name_faults, language.attribute_faults, language.form_faults,
            language.loop_faults, language.import_faults, language.index_faults, language.purity_faults,
            language.clash_faults, language.generator_faults, language.handler_faults, language.exit_faults,
        ):
            with self.subTest(look.__name__):
                self.assertEqual(look(TEXTS), [])

    def test_each_function_and_class_is_defined_where_it_is_listed(self):
        listed = {
            "statements": "Statement Show Add Call Give Either Function", "programs": "Program",
            "keepers": "points Keeper Plain Told", "layouts": "Layout",
            "worlds": "stack_at held_at kept_at count_moments shows_of",
            "comparing": "keeps_no_more compared is_compared excesses",
            "runs": "Run Handle", "growth": "growth grown is_grown",
            "prices": "way_of entry_price statement_prices price family_size family paid cheapest least_price mends"
            " coarsest",
            "changes": "Change Renaming Pruning Grafting Lifting Sinking",
            "texts": "write_program write_layout write_keeper write_world line_of point_at keeper_table",
            "reading": "read_program read_layout read_keeper read_world is_program_text",
            "sessions": "Session Trial BoundSession CappedSession StrictSession", "desks": "Desk answers",
        }
        self.assertLessEqual({f"heldby/{stem}.py" for stem in listed}, set(TEXTS))
        for path, tree in self.trees():
            defined = {node.name for node in tree.body if isinstance(node, (ast.ClassDef, ast.FunctionDef))}
            self.assertLessEqual(set(listed.get(pathlib.Path(path).stem, "").split()), defined)


class PropertyTest(unittest.TestCase):
    def faults(self, *texts):
        found = language.property_faults({f"{at}.py": text for at, text in enumerate(texts)})
        return [(path, name) for path, _, name in found]

    def test_the_package_has_properties_and_none_is_assigned(self):
        trees = language.trees_of(TEXTS)
        properties = language.properties_of(trees)
        self.assertLessEqual({"main", "functions", "used"}, set(properties))
        assigned = {name for _, _, name in language.assigned_attributes(trees)}
        self.assertEqual([name for name in properties if not properties[name] and name in assigned], [])

    def test_assignments_are_found(self):
        self.assertEqual(self.faults(BOX), [])
        for row in (
            "self.many = 1", "self.many += 1", "a, self.many = 1, 2", "[self.many] = [1]", "a = self.many = 1",
            "self.many: int = 1", "del self.many", "setattr(self, 'many', 1)", "a.b.many = 1", "a[0].many = 1",
            "(self.many, (b, c)) = d", "for self.many in a: pass", "with a as self.many: pass",
        ):
            with self.subTest(row):
                other = OTHER.replace("ROW", row)
                self.assertEqual(self.faults(BOX, other), [("1.py", "many")])
                self.assertEqual(self.faults(other), [])
                # With a setter it may be assigned, if each class that has the property has one.
                self.assertEqual(self.faults(BOX + SETTER, other), [])
                self.assertEqual(self.faults(BOX + SETTER, BOX, other), [("2.py", "many")])

    def test_reading_is_no_fault(self):
        reading = "def told(box):\n    many = box.many\n    box.few = many\n    return box.many\n"
        self.assertEqual(self.faults(BOX, reading), [])

    def test_methods_of_the_name_are_found(self):
        self.assertEqual(self.faults(BOX, "class Other:\n    def many(self):\n        return 1\n"), [("1.py", "many")])

    def test_a_setter_in_one_class_only(self):
        assigning = "def told(box):\n    box.many = 1\n"
        self.assertEqual(self.faults(BOX + SETTER, assigning), [])
        self.assertEqual(self.faults(BOX + SETTER, BOX, assigning), [("2.py", "many")])
        self.assertEqual(self.faults(BOX, BOX + SETTER, assigning), [("2.py", "many")])


class LooksTest(unittest.TestCase):
    """That the looks at the package find what they look for."""

    def found(self, look, text):
        return [name for _, _, name in look({"heldby/a.py": text})]

    def test_names(self):
        for text in ("def open(a):\n    return a\n", "open = 1\n", "def f(id):\n    return id\n",
            "def f():\n    len = 1\n"):
            self.assertNotEqual(self.found(language.name_faults, text), [])
        self.assertEqual(self.found(language.name_faults, OTHER.replace("ROW", "self.items = 1")), ["items"])
        self.assertEqual(self.found(language.name_faults, "class Box:\n    pass\ndef f(Box):\n    return Box\n"),
            ["Box"])
        self.assertEqual(self.found(language.name_faults, "from heldby.b import c\ndef c():\n    return 1\n"), ["c"])

    def test_attributes(self):
        self.assertEqual(self.found(language.attribute_faults, "def f(a):\n    return a.b\n"), ["b"])
        self.assertEqual(self.found(language.attribute_faults, "def f(a):\n    a.b = 1\n    return a.b()\n"), ["b"])
        self.assertEqual(self.found(language.attribute_faults, "class A:\n    def b(self):\n        self.b = 1\n"),
            ["b"])

    def test_forms(self):
        for row in ("any(b for b in a)", "1 / 2", "1.5", "a is b", "'50%'", "Box.at(a)"):
            self.assertEqual(len(self.found(language.form_faults, f"def f(a, b):\n    c = [{row}]\n")), 1, row)
        for row in ("zip(a, b)", "set(a)", "a.items()", "range(3)"):
            self.assertEqual(len(self.found(language.form_faults, f"def f(a, b):\n    c = {row}\n")), 1, row)

    def test_stars_in_indexes(self):
        for row in ("a[(*b, 1)]", "a[(*b, 1)] = 2", "a[0][(1, *b)] += 1", "del a[(*b,)]", "a[[*b]]", "a[*b]",
            "a[*b, 1]"):
            self.assertEqual(len(self.found(language.index_faults, f"def f(a, b):\n    {row}\n")), 1, row)
        for row in ("c = (*b, 1)\n    a[c] = 2", "a[b[0]] = [*b]", "c = [*b][0]", "a(*b)"):
            self.assertEqual(self.found(language.index_faults, f"def f(a, b):\n    {row}\n"), [], row)

    def test_purity(self):
        head = "class A:\n    @property\n    def b(self):\n"
        for row in ("self.c = 1", "self.c[0] = 1", "self.c.append(1)", "d()", "self.d()", "del self.c[0]", "A(1)"):
            text = f"{head}        {row}\ndef d():\n    e().f = 1\ndef e():\n    return 1\n"
            text += "class B:\n    def __init__(self):\n        g().h = 1\n"
            self.assertEqual(bool(self.found(language.purity_faults, text)), row != "A(1)", row)
        for row in ("return self.c", "return list(self.c)", "return [d for d in self.c]", "return e(self)"):
            text = f"{head}        {row}\ndef e(a):\n    return a.c\ndef h(a):\n    a.c = 1\n"
            self.assertEqual(self.found(language.purity_faults, text), [], row)
        for name in ("__eq__", "__add__", "__len__"):
            text = f"class A:\n    def {name}(self, a):\n        return a()\n"
            self.assertEqual(self.found(language.purity_faults, text), ["a"])

    def test_clashes(self):
        text = "class A:\n    def b(self):\n        return 1\nclass C:\n    def d(self):\n        self.b = 1\n"
        self.assertEqual(self.found(language.clash_faults, text), ["b"])
        self.assertEqual(self.found(language.clash_faults, text.replace("self.b", "self.e")), [])

    def test_generators(self):
        text = "def a():\n    yield 1\n"
        self.assertEqual(self.found(language.generator_faults, text + "class B:\n    def a(self):\n        pass\n"),
            ["a"])
        for row in ("b = a()", "return a()", "len(a())", "a()"):
            self.assertEqual(self.found(language.generator_faults, f"{text}def c():\n    {row}\n"), ["a"], row)
        for row in ("for b in a():\n        pass", "return list(a())", "return [b for b in a()]"):
            self.assertEqual(self.found(language.generator_faults, f"{text}def c():\n    {row}\n"), [], row)

    def test_handlers(self):
        body = "class Own(ValueError):\n    pass\ndef f():\n    try:\n        g()\n    except ERROR:\n        raise\n"
        for word in ("ValueError", "(Own, ValueError)", "Exception", "StopIteration"):
            self.assertEqual(len(self.found(language.handler_faults, body.replace("ERROR", word))), 1, word)
        self.assertEqual(self.found(language.handler_faults, body.replace("ERROR", "Own")), [])

    def test_exits(self):
        head = "class A:\n    def __exit__(self, kind, value, trace):\n        net = self.net\n"
        for row in ("net.a = net.b + 1", "net.a()", "net.a = value", "net.a[0] = 1",
            "for a in net.b:\n            pass", "net.a = [x for x in net.b]", "print(trace)", "net.a = net.b is None",
            "net.a = net.b or net.c", "net.a = not net.b", "net.a = net.b if kind is None else net.c"):
            self.assertNotEqual(self.found(language.exit_faults, f"{head}        {row}\n"), [], row)
        for row in ("net.a = self.b", "net.a = True", "net.a = (self.b, 1)"):
            self.assertEqual(self.found(language.exit_faults, f"{head}        {row}\n"), [], row)
        text = "def f(a):\n    try:\n        a.b()\n    finally:\n        a.c = d()\n"
        self.assertEqual(self.found(language.exit_faults, text), ["Call"])

    def test_questions_of_exits(self):
        heads = (
            "class A:\n    def __exit__(self, kind, value, trace):\n        ",
            "def f(self, kind):\n    try:\n        g()\n    finally:\n        ",
        )
        for head in heads:
            for test in ("self.a", "not self.a", "kind is None and self.a", "self.a or kind is None", "self.a == 1",
                "None is kind", "self.a is True", "self.a() is None", "self.a[0] is None", "kind is self.a", "True",
                "kind is self.a is None", "len(self.a)"):
                text = f"{head}if {test}:\n            return\n"
                self.assertEqual(len(self.found(language.exit_faults, text)), 1, text)
            for test in ("kind is None", "self.a is not None", "kind is None and self.a is not None",
                "not (kind is None or self.a.b is None)"):
                text = f"{head}if {test}:\n            return\n"
                self.assertEqual(self.found(language.exit_faults, text), [], text)

    def test_class_methods(self):
        text = "class Box:\n    @classmethod\n    def of(cls):\n        return cls()\ndef f():\n    return Box.ROW\n"
        self.assertEqual(self.found(language.form_faults, text.replace("ROW", "of()")), [])
        self.assertEqual(len(self.found(language.form_faults, text.replace("ROW", "of"))), 1)
        self.assertEqual(len(self.found(language.form_faults, text.replace("ROW", "at()"))), 1)

    def test_loops(self):
        for row in ("a.append(b)", "a[b] = 1", "del a[b]", "heappush(a, b)"):
            for head in ("b in a", "b in reversed(a)", "b, c in a.items()", "b, c in enumerate(a)"):
                self.assertEqual(len(self.found(language.loop_faults, f"def f(a):\n    for {head}:\n        {row}\n")),
                    1)
        self.assertEqual(self.found(language.loop_faults, "def f(a, c):\n    for b in a:\n        c.append(b)\n"), [])

    def test_imports(self):
        texts = {"heldby/a.py": "from heldby.b import b\na = 1\n", "heldby/b.py": "from heldby.a import a\nb = 1\n"}
        self.assertEqual([name for _, _, name in language.import_faults(texts)], ["circle", "circle"])
        texts["heldby/b.py"] = "b = 1\n"
        self.assertEqual(language.import_faults(texts), [])
        texts["heldby/b.py"] = "c = 1\n"
        self.assertEqual([name for _, _, name in language.import_faults(texts)], ["b"])
        self.assertEqual(self.found(language.import_faults, "from random import random\n"), ["random"])


if __name__ == "__main__":
    unittest.main()
