import unittest

from heldby import statements
from heldby.statements import Add, Call, Either, Function, Give, Show, Statement
from tests.samples import any_values

# For each class its attributes, and those of them that are lists.
PARTS = {
    Show: (("name",), ()),
    Add: (("name", "many"), ()),
    Call: (("name", "things"), ("things",)),
    Give: (("name",), ()),
    Either: (("one", "other"), ("one", "other")),
    Function: (
        ("name", "parameters", "things", "numbers", "functions", "body"),
        ("parameters", "things", "numbers", "functions", "body"),
    ),
}


class MakingTest(unittest.TestCase):
    def test_classes(self):
        for made in (Show, Add, Call, Give, Either):
            self.assertEqual(made.__bases__, (Statement,))
            self.assertEqual(made.__module__, "heldby.statements")
        self.assertFalse(issubclass(Function, Statement))

    def test_attributes_by_name_and_by_position(self):
        show, add, call, give = Show(name="a"), Add(name="a", many=2), Call(name="f", things=("a",)), Give(name="f")
        self.assertEqual([show.name, give.name, add.name, add.many], ["a", "f", "a", 2])
        self.assertEqual([call.name, call.things], ["f", ("a",)])
        either = Either(one=(show,), other=(add, give))
        self.assertEqual([either.one, either.other], [(show,), (add, give)])
        self.assertEqual([Show("a").name, Give("f").name], ["a", "f"])
        self.assertEqual([Add("a", 2).name, Add("a", 2).many], ["a", 2])
        self.assertEqual([Call("f", ["a", "b"]).name, Call("f", ["a", "b"]).things], ["f", ("a", "b")])
        self.assertEqual([Either([show], []).one, Either([show], []).other], [(show,), ()])

    def test_attributes_of_functions(self):
        inner, show = Function("g"), Show("a")
        f = Function("f", ["x", "y"], things=["a"], numbers=["n"], functions=[inner], body=[show])
        self.assertEqual([f.name, f.parameters, f.things, f.numbers], ["f", ("x", "y"), ("a",), ("n",)])
        self.assertIs(f.functions[0], inner)
        self.assertIs(f.body[0], show)
        self.assertEqual([len(f.functions), len(f.body)], [1, 1])
        self.assertEqual(Function(name="f", parameters=("x",)).parameters, ("x",))
        g = Function("g")
        self.assertEqual([g.parameters, g.things, g.numbers, g.functions, g.body], [()] * 5)

    def test_all_attributes_are_set_at_once(self):
        for made, (names, _) in PARTS.items():
            part = made(**{name: name * 2 for name in names})
            self.assertEqual([getattr(part, name) for name in names], [name * 2 for name in names])
            self.assertEqual(len(vars(part)), len(names))

    def test_inner_functions_are_not_assigned(self):
        inner = Function("g")
        f = Function("f", functions=[inner])
        with self.assertRaises(AttributeError):
            f.functions = ()
        with self.assertRaises(AttributeError):
            del f.functions
        self.assertIs(f.functions[0], inner)
        self.assertEqual(f.functions, (inner,))

    def test_any_values_are_taken_as_they_are(self):
        for made, (names, lists) in PARTS.items():
            for at, name in enumerate(names):
                for value in any_values():
                    if name in lists and isinstance(value, list):
                        continue
                    with self.subTest(made.__name__, name=name, value=value):
                        told = {other: None for other in names}
                        told[name] = value
                        self.assertIs(getattr(made(**told), name), value)
                        if made is not Function:
                            self.assertIs(getattr(made(*told.values()), names[at]), value)

    def test_lists_become_tuples_of_what_they_have(self):
        for made, (names, lists) in PARTS.items():
            for name in lists:
                for value in [[], ["a", "b"], any_values(), [["a"], [], ("b",)]]:
                    with self.subTest(made.__name__, name=name):
                        told = {other: None for other in names}
                        told[name] = value
                        had = list(value)
                        part = made(**told)
                        got = getattr(part, name)
                        self.assertIsInstance(got, tuple)
                        self.assertEqual([id(member) for member in got], [id(member) for member in had])
                        self.assertEqual([id(member) for member in value], [id(member) for member in had])
                        value.append("later")
                        self.assertEqual(len(getattr(part, name)), len(had))


class EqualityTest(unittest.TestCase):
    def alike(self):
        """Makers of parts: what a row makes is equal, what unlike rows make is not."""
        return [
            (lambda: Show("a"), lambda: Show(name="a")),
            (lambda: Show("b"), lambda: Show("b")),
            (lambda: Show(["a"]), lambda: Show(["a"])),
            (lambda: Give("a"), lambda: Give("a")),
            (lambda: Give("b"), lambda: Give("b")),
            (lambda: Add("a", 1), lambda: Add("a", 1)),
            (lambda: Add("b", 1), lambda: Add("b", 1)),
            (lambda: Add("a", 2), lambda: Add("a", 2)),
            (lambda: Add("a", ("b",)), lambda: Add("a", ("b",))),
            (lambda: Call("a", []), lambda: Call("a", ())),
            (lambda: Call("b", []), lambda: Call("b", [])),
            (lambda: Call("a", ["b"]), lambda: Call("a", ("b",))),
            (lambda: Call("a", ["b", "c"]), lambda: Call("a", ["b", "c"])),
            (lambda: Call("a", ["c", "b"]), lambda: Call("a", ["c", "b"])),
            (lambda: Call("a", {"b": 1}), lambda: Call("a", {"b": 1})),
            (lambda: Either([], []), lambda: Either((), ())),
            (lambda: Either([Show("a")], []), lambda: Either((Show("a"),), [])),
            (lambda: Either([], [Show("a")]), lambda: Either([], [Show("a")])),
            (lambda: Either([Give("a")], []), lambda: Either([Give("a")], [])),
            (lambda: Either([Either([Show("a")], [])], []), lambda: Either([Either([Show("a")], [])], [])),
            (lambda: Either("a", None), lambda: Either("a", None)),
            (lambda: Function("a"), lambda: Function("a", [], things=[], numbers=(), functions=[], body=[])),
            (lambda: Function("b"), lambda: Function("b")),
            (lambda: Function("a", ["b"]), lambda: Function("a", ("b",))),
            (lambda: Function("a", things=["b"]), lambda: Function("a", things=("b",))),
            (lambda: Function("a", numbers=["b"]), lambda: Function("a", numbers=["b"])),
            (lambda: Function("a", functions=[Function("b")]), lambda: Function("a", functions=[Function("b")])),
            (lambda: Function("a", body=[Show("b")]), lambda: Function("a", body=[Show("b")])),
            (lambda: Function("a", body=[Give("b")]), lambda: Function("a", body=[Give("b")])),
            (lambda: Function("a", body=7), lambda: Function("a", body=7)),
        ]

    def test_equal_exactly_within_a_row(self):
        rows = self.alike()
        for at, row in enumerate(rows):
            for other_at, other_row in enumerate(rows):
                for make in row:
                    for other_make in other_row:
                        with self.subTest(at=at, other_at=other_at):
                            self.assertIs(make() == other_make(), at == other_at)
                            self.assertIs(make() != other_make(), at != other_at)

    def test_no_other_values_are_equal(self):
        strange = [None, "a", 0, 1, True, (), [], ("a",), ["a"], {"name": "a"}, object()]
        for row in self.alike():
            for value in strange:
                self.assertFalse(row[0]() == value)
                self.assertTrue(row[0]() != value)

    def test_each_class_compares_itself(self):
        for made in PARTS:
            self.assertIn("__eq__", vars(made))

    def test_deeply_nested_eithers(self):
        def deep(name):
            statement = Show(name)
            for at in range(60):
                statement = Either([statement], []) if at % 2 else Either([], [statement])
            return statement

        self.assertTrue(deep("a") == deep("a"))
        self.assertFalse(deep("a") == deep("b"))


class InterfaceTest(unittest.TestCase):
    def test_all_are_there(self):
        for name in ("Statement", "Show", "Add", "Call", "Give", "Either", "Function"):
            self.assertTrue(hasattr(statements, name))
