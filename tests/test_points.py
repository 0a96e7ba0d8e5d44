import unittest

from heldby.errors import UnknownName
from heldby.keepers import points
from heldby.programs import Program
from heldby.statements import Add, Either, Function, Give, Show
from tests.makers import programs
from tests.plain_layouts import flattened, points_of, reached_by, used_by
from tests.samples import any_values, nested_eithers


def points_in(body):
    return points(Program(Function("main", ["a"], numbers=["n"], body=body)), "main")


class PointsTest(unittest.TestCase):
    def test_no_statements(self):
        self.assertEqual(points_in([]), ((),))

    def test_statements(self):
        self.assertEqual(points_in([Show("a")]), ((), (0,)))
        self.assertEqual(points_in([Show("a"), Add("n", 2), Show("n")]), ((), (0,), (1,), (2,)))

    def test_many_statements(self):
        self.assertEqual(points_in([Show("a")] * 12), ((), *[(at,) for at in range(12)]))

    def test_eithers(self):
        self.assertEqual(points_in([Either([], [])]), ((), (0,), (0, 0), (0, 1)))
        self.assertEqual(
            points_in([Show("a"), Either([Show("a"), Show("a")], [Show("a")]), Show("a")]),
            ((), (0,), (1,), (1, 0), (1, 0, 0), (1, 0, 1), (1, 1), (1, 1, 0), (2,)),
        )
        self.assertEqual(points_in([Either([], [Show("a")])]), ((), (0,), (0, 0), (0, 1), (0, 1, 0)))

    def test_eithers_in_eithers(self):
        self.assertEqual(
            points_in([Either([Either([], [Show("a")])], []), Either([], [Show("a"), Either([], [])])]),
            (
                (), (0,), (0, 0), (0, 0, 0), (0, 0, 0, 0), (0, 0, 0, 1), (0, 0, 0, 1, 0), (0, 1),
                (1,), (1, 0), (1, 1), (1, 1, 0), (1, 1, 1), (1, 1, 1, 0), (1, 1, 1, 1),
            ),
        )

    def test_sixty_eithers_in_each_other(self):
        found = points_in([nested_eithers(60)])
        self.assertEqual(len(found), 181)
        self.assertEqual(list(found), sorted(set(found)))
        self.assertEqual(max(map(len, found)), 120)

    def test_each_function_has_its_own(self):
        g = Function("g", body=[Either([], [])])
        f = Function("f", functions=[g])
        program = Program(Function("main", functions=[f], body=[Give("f")]))
        self.assertEqual([points(program, name) for name in program.functions],
                         [((), (0,)), ((),), ((), (0,), (0, 0), (0, 1))])
        self.assertEqual(points(program=program, name="f"), ((),))

    def test_many_programs(self):
        for program in programs(150):
            for name in program.functions:
                found = points(program, name)
                body = program.function(name).body
                self.assertIsInstance(found, tuple)
                self.assertEqual(list(found), sorted(points_of(body)))

    def test_unknown_names(self):
        f = Function("f", ["x"], numbers=["n"])
        program = Program(Function("main", ["a"], functions=[f], body=[Give("f")]))
        for value in any_values() + ["a", "x", "n", "g", "Main", "main ", program, ("main",), ["main"], [["main"]]]:
            with self.assertRaises(UnknownName) as caught:
                points(program, value)
            self.assertIs(caught.exception.value, value)


class RestsTest(unittest.TestCase):
    def test_many_programs(self):
        for program in programs(150):
            for name in program.functions:
                want = points_of(program.function(name).body)
                rows = program.rests(name)
                self.assertEqual([row[0] for row in rows], sorted(want))
                for point, variables, functions in rows:
                    self.assertEqual(set(variables), used_by(want[point]))
                    self.assertEqual(set(functions), reached_by(want[point]))
                self.assertEqual(want[()], flattened(program.function(name).body))

    def test_is_point(self):
        program = Program(Function("main", ["a"], body=[Show("a"), Either([Show("a")], [])]))
        for point in ((), (0,), (1,), (1, 0), (1, 1), (1, 0, 0)):
            self.assertIs(program.is_point("main", point), True)
        for value in any_values() + [(True,), (1, False), (1, 0, False), (0, 0), (2,), (-1,), (1, 2), [0], ((0,),),
            ([],)]:
            if value != ():
                self.assertIs(program.is_point("main", value), False)


if __name__ == "__main__":
    unittest.main()
