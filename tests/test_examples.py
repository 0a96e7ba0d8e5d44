"""The examples that stand in the document under keepers, layouts, worlds and comparing."""

import unittest

from heldby.comparing import compared, is_compared, keeps_no_more
from heldby.keepers import Plain, Told, points
from heldby.layouts import Layout
from heldby.programs import Program
from heldby.statements import Call, Function, Give, Show
from heldby.worlds import kept_at, shows_of, stack_at


def first():
    f = Function("f", ["x"], body=[Show("a")])
    return Program(Function("main", things=["a", "b"], functions=[f], body=[Call("f", ["b"]), Give("f")]))


def pair():
    functions = [Function("f", body=[Show("a")]), Function("g", body=[Show("b")])]
    return Program(Function("main", things=["a", "b"], functions=functions, body=[Give("f"), Give("g")]))


class ExampleTest(unittest.TestCase):
    def test_keepers(self):
        program = first()
        plain = Plain(program)
        self.assertEqual([plain.closure("f"), [plain.frame("main", point) for point in points(program, "main")]],
                         [("a",), [("a", "b"), ("a",), ()]])
        less = Told(program, {"f": ["a"]}, {})
        self.assertEqual([(less & plain) == less, (less | plain) == plain, less.frame("main", ())], [True, True, ()])

    def test_layouts(self):
        both = Layout(pair(), bundles=[["a", "b"]])
        self.assertEqual([both.units("f"), both.closure("f"), both.frame("main", (0,)),
            Layout.flat(pair()).frame("main", (0,))],
                         [(("bundle", ("a", "b")),), ("a", "b"), ("a", "b"), ("b",)])
        self.assertEqual([Layout.flat(pair()).refines(both), both.unbundled(0).choice(),
            Layout.flat(pair()) == Plain(pair())],
                         [True, ((), (), ()), True])

    def test_layouts_of_the_first_program(self):
        # The columns of the table of a later section: closures in brackets, then frames at each point.
        program = first()
        for keeper in (Plain(program), Layout.chained(program)):
            self.assertEqual([keeper.closure("f"), [keeper.frame("f", point) for point in ((), (0,))]],
                [("a",), [("a",), ()]])
            self.assertEqual([keeper.frame("main", point) for point in ((), (0,), (1,))], [("a", "b"), ("a",), ()])

    def test_worlds(self):
        both = Layout(pair(), bundles=[["a", "b"]])
        world = [(0, (), (), (0,), ()), (1, (), (), (), (1,))]
        self.assertEqual(
            [shows_of(pair(), world), kept_at(both, world[:1], None), kept_at(Plain(pair()), world[:1], None),
                kept_at(both, world, None)],
            [[[], [("a", -1)]], (-2, -1), (-1,), ()],
        )
        self.assertEqual(stack_at(pair(), world, 0), [("f", (), {"a": -1, "b": -2})])

    def test_comparing(self):
        both = Layout(pair(), bundles=[["a", "b"]])
        world = [(0, (), (), (0,), ()), (1, (), (), (), (1,))]
        self.assertEqual([keeps_no_more(both, Plain(pair())), keeps_no_more(Plain(pair()), both),
            compared(both, Plain(pair()))[0]],
                         [False, True, "world"])
        self.assertIs(is_compared(both, Plain(pair()), ("world", world[:1], None, -2)), True)


if __name__ == "__main__":
    unittest.main()
