import random
import unittest

from heldby.errors import OtherProgram, UnknownName, UnknownPoint
from heldby.keepers import Keeper, Plain, Told, points
from heldby.layouts import Layout
from heldby.programs import Program
from heldby.statements import Add, Call, Either, Function, Give, Show
from tests.makers import changed, made_keeper, made_layout, made_told, programs
from tests.plain_layouts import PlainMeans
from tests.samples import any_values, unknown_points


def small():
    """main has z, b, a; f has x, c and n; g is in f; h is not used, and k in it neither."""
    g = Function("g", ["y"], body=[Show("a"), Show("x")])
    f = Function("f", ["x"], things=["c"], numbers=["n"], functions=[g],
                 body=[Either([Call("g", ["b"])], [Add("n", 1)]), Show("c")])
    k = Function("k", body=[Show("h")])
    h = Function("u", ["h"], functions=[k], body=[Give("k"), Show("a"), Call("f", ["z"])])
    return Program(Function("main", ["z"], things=["b", "a"], functions=[f, h], body=[Give("f"), Call("f", ["z"])]))


def keepers_of(program):
    """A keeper of each class, and of the two signs."""
    plain, told = Plain(program), Told(program, {}, {})
    return [plain, told, Layout(program), plain & told, plain | told]


def table(keeper):
    """All that a keeper tells."""
    program = keeper.program
    closures = {name: keeper.closure(name) for name in program.functions}
    return closures, {(name, point): keeper.frame(name, point) for name in program.functions
        for point in points(program, name)}


class QueriesTest(unittest.TestCase):
    def setUp(self):
        self.program = small()

    def test_program(self):
        for keeper in keepers_of(self.program):
            self.assertIs(keeper.program, self.program)
            with self.assertRaises(AttributeError):
                keeper.program = self.program

    def test_subclasses(self):
        for made in (Plain, Told, Layout):
            self.assertTrue(issubclass(made, Keeper))
        for keeper in keepers_of(self.program):
            self.assertIsInstance(keeper, Keeper)

    def test_listed_methods_stand_in_the_class(self):
        for name in ("program", "closure", "frame", "__eq__", "__and__", "__or__"):
            self.assertIn(name, vars(Keeper))

    def test_closures_of_main_are_empty(self):
        for keeper in keepers_of(self.program):
            self.assertEqual(keeper.closure("main"), ())

    def test_ascending_tuples(self):
        for at, program in enumerate(programs(100)):
            for keeper in [*keepers_of(program), made_keeper(random.Random(at), program)]:
                closures, frames = table(keeper)
                for kept in [*closures.values(), *frames.values()]:
                    self.assertIsInstance(kept, tuple)
                    self.assertEqual(list(kept), sorted(set(kept)))

    def test_by_position_and_by_name(self):
        plain = Plain(program=self.program)
        self.assertEqual(plain.closure(name="f"), plain.closure("f"))
        self.assertEqual(plain.frame(name="f", point=()), plain.frame("f", ()))
        told = Told(program=self.program, closures={"f": ["a"]}, frames={})
        self.assertEqual(told, Told(self.program, {"f": ["a"]}, {}))

    def test_unknown_names(self):
        for keeper in keepers_of(self.program):
            for value in any_values() + ["a", "x", "n", "nobody", ["f"], ("f",), {"f": 1}, keeper, self.program]:
                with self.assertRaises(UnknownName) as caught:
                    keeper.closure(value)
                self.assertIs(caught.exception.value, value)
                for point in ((), (0,), (99,), None, [], ["f"]):
                    with self.assertRaises(UnknownName) as caught:
                        keeper.frame(value, point)
                    self.assertIs(caught.exception.value, value)

    def test_unknown_points(self):
        for keeper in keepers_of(self.program):
            for name in self.program.functions:
                for value in [*unknown_points(points(self.program, name)), keeper]:
                    with self.assertRaises(UnknownPoint) as caught:
                        keeper.frame(name, value)
                    self.assertIs(caught.exception.value, value)

    def test_true_is_no_part_of_a_point(self):
        for keeper in keepers_of(self.program):
            keeper.frame("f", (1,))
            for value in ((True,), (0, True), (0, True, 0), (0, 1, False), (False,), [1], [(1,)], ((1,),)):
                with self.assertRaises(UnknownPoint) as caught:
                    keeper.frame("f", value)
                self.assertIs(caught.exception.value, value)


class EqualityTest(unittest.TestCase):
    def test_across_classes(self):
        program = small()
        plain = Plain(program)
        closures, frames = table(plain)
        told = Told(program, {name: closures[name] for name in closures if name != "main"}, frames)
        same = [plain, Plain(small()), told, Layout.flat(program), Layout.flat(small()), plain & told, plain | told]
        for one in same:
            for other in same:
                self.assertIs(one == other, True)
                self.assertIs(one != other, False)

    def test_one_closure_or_frame_tells_them_apart(self):
        program = small()
        plain = Plain(program)
        closures, frames = table(plain)
        del closures["main"]
        for name in closures:
            kept = [thing for thing in program.chain_things(program.parent(name)) if thing not in closures[name]]
            for thing in kept:
                other = Told(program, {**closures, name: [*closures[name], thing]}, frames)
                self.assertFalse(plain == other or other == plain)
                self.assertTrue(plain != other and other == other | plain)
        for key in frames:
            for thing in [thing for thing in program.chain_things(key[0]) if thing not in frames[key]]:
                other = Told(program, closures, {**frames, key: [*frames[key], thing]})
                self.assertFalse(plain == other or other == plain)

    def test_other_programs(self):
        one, other = small(), Program(Function("main", ["a"]))
        for keeper in keepers_of(one):
            for further in keepers_of(other):
                self.assertFalse(keeper == further)
        # With equal closures and frames, too.
        empty = Told(Program(Function("main", body=[])), {}, {})
        named = Told(Program(Function("amain", body=[])), {}, {})
        numbered = Told(Program(Function("main", numbers=["n"])), {}, {})
        self.assertFalse(empty == named or empty == numbered)

    def test_no_keepers(self):
        for keeper in keepers_of(small()):
            for value in any_values() + [keeper.program, table(keeper), object()]:
                self.assertIs(keeper == value, False)
                self.assertIs(keeper != value, True)

    def test_by_what_they_tell(self):
        equal = 0
        for at, program in enumerate(programs(200)):
            chance = random.Random(at)
            one, other = made_keeper(chance, program), made_keeper(chance, program)
            for first, second in ((one, other), (one, changed(chance, one)),
                (made_layout(chance, program), Plain(program))):
                self.assertIs(first == second, table(first) == table(second))
                equal += first == second
        self.assertGreater(equal, 40)


class PlainTest(unittest.TestCase):
    def test_small(self):
        plain = Plain(small())
        self.assertEqual([plain.closure(name) for name in small().functions], [(), ("a", "b"), ("a", "x"), (), ()])
        self.assertEqual([plain.frame("main", point) for point in ((), (0,), (1,))],
            [("a", "b", "z"), ("a", "b", "z"), ()])
        want = {
            (): ("a", "b", "c", "x"), (0,): ("c",), (0, 0): ("a", "b", "c", "x"), (0, 0, 0): ("c",), (0, 1): ("c",),
            (0, 1, 0): ("c",), (1,): (),
        }
        self.assertEqual({point: plain.frame("f", point) for point in want}, want)
        self.assertEqual(set(points(small(), "f")), set(want))
        self.assertEqual([plain.frame("g", point) for point in ((), (0,), (1,))], [("a", "x"), ("x",), ()])

    def test_functions_that_are_not_used_keep_nothing(self):
        program = small()
        plain = Plain(program)
        self.assertEqual(program.needs("k"), ("h",))
        for name in ("u", "k"):
            self.assertEqual(plain.closure(name), ())
            self.assertEqual({plain.frame(name, point) for point in points(program, name)}, {()})

    def test_each_statement(self):
        f = Function("f", ["p", "q"], body=[Show("a"), Add("n", 2)])
        body = [Show("b"), Add("n", 1), Show("n"), Call("f", ["c", "c"]), Give("f")]
        program = Program(Function("main", ["a", "b"], things=["c", "d"], numbers=["n"], functions=[f], body=body))
        plain = Plain(program)
        kept = [plain.frame("main", point) for point in points(program, "main")]
        self.assertEqual(kept, [("a", "b", "c"), ("a", "c"), ("a", "c"), ("a", "c"), ("a",), ()])
        self.assertEqual(plain.closure("f"), ("a",))
        self.assertEqual([plain.frame("f", point) for point in ((), (0,), (1,))], [("a",), (), ()])

    def test_both_lists_of_an_either_ahead_and_none_of_the_other_list_within(self):
        body = [Either([Show("a")], [Show("b"), Either([Show("c")], [])]), Show("d")]
        plain = Plain(Program(Function("main", ["a", "b", "c", "d"], body=body)))
        want = {
            (): ("a", "b", "c", "d"), (0,): ("d",), (0, 0): ("a", "d"), (0, 0, 0): ("d",), (0, 1): ("b", "c", "d"),
            (0, 1, 0): ("c", "d"), (0, 1, 1): ("d",), (0, 1, 1, 0): ("c", "d"), (0, 1, 1, 0, 0): ("d",),
            (0, 1, 1, 1): ("d",), (1,): (),
        }
        self.assertEqual({point: plain.frame("main", point) for point in want}, want)

    def test_a_function_that_calls_itself(self):
        f = Function("f", ["x"], things=["y"], body=[Either([Call("f", ["y"])], [Show("x"), Show("a")])])
        program = Program(Function("main", ["a"], functions=[f], body=[Call("f", ["a"])]))
        plain = Plain(program)
        self.assertEqual(plain.closure("f"), ("a",))
        self.assertEqual([plain.frame("f", point) for point in ((), (0, 0), (0, 1), (0,))],
                         [("a", "x", "y"), ("a", "y"), ("a", "x"), ()])

    def test_many_programs(self):
        for program in programs(300):
            plain, want = Plain(program), PlainMeans(program)
            for name in program.functions:
                self.assertEqual(set(plain.closure(name)), want.closure(name))
                for point in points(program, name):
                    self.assertEqual(set(plain.frame(name, point)), want.frame(name, point))


class ToldTest(unittest.TestCase):
    def setUp(self):
        self.program = small()

    def test_what_is_told(self):
        told = Told(self.program, {"g": ["z", "a", "c", "a", "z"], "f": ("b", "a"), "k": ["h"]},
                    {("f", (0, 0)): ["x", "c", "a", "x"], ("main", ()): ("b",), ("g", (1,)): [],
                        ("k", (0,)): ("h", "a")})
        self.assertEqual([told.closure(name) for name in ("main", "f", "g", "u", "k")],
                         [(), ("a", "b"), ("a", "c", "z"), (), ("h",)])
        kept = {key: things for key, things in table(told)[1].items() if things}
        self.assertEqual(kept, {("f", (0, 0)): ("a", "c", "x"), ("main", ()): ("b",), ("k", (0,)): ("a", "h")})

    def test_all_things_of_the_chain(self):
        program = self.program
        closures = {name: program.chain_things(program.parent(name)) for name in program.functions[1:]}
        frames = {(name, point): program.chain_things(name) for name in program.functions
            for point in points(program, name)}
        told = Told(program, closures, frames)
        for name in program.functions[1:]:
            self.assertEqual(told.closure(name), tuple(sorted(closures[name])))
        for name, point in frames:
            self.assertEqual(told.frame(name, point), tuple(sorted(frames[name, point])))

    def test_many_keepers(self):
        for at, program in enumerate(programs(100)):
            told = made_told(random.Random(at), program, 0.5)
            closures, frames = table(told)
            again = Told(program, {name: closures[name][::-1] * 2 for name in closures
                if name != program.functions[0]}, frames)
            self.assertEqual(again, told)

    def refused(self, error, value, closures, frames):
        with self.assertRaises(error) as caught:
            Told(self.program, closures, frames)
        self.assertIs(caught.exception.value, value)

    def test_keys_of_closures(self):
        keys = [value for value in any_values() if not isinstance(value, (list, dict)) and hashable(value)]
        for key in keys + ["main", "a", "x", "n", "nobody", ("f", ()), ("f",)]:
            self.refused(UnknownName, key, {"f": [], key: [], "nothing": []}, {})
            self.refused(UnknownName, key, {key: ["a"], "f": ["wrong"]}, {("wrong", ()): ["wrong"]})

    def test_keys_of_frames(self):
        keys = [value for value in any_values() if not isinstance(value, (list, dict)) and hashable(value)]
        keys += ["f", "main", ("f",), ("f", (), ()), ("f", 0), ("f", None), ("x", ()), ("n", ()), ("nobody", ()),
            (None, ()), (1, ())]
        keys += [("f", (True,)), ("f", (0, False)), ("f", (2,)), ("f", (1, 0)), ("f", ("0",)), ("f", ((0,),)),
            (("f",), ()), ((), "f")]
        for key in keys:
            self.refused(UnknownPoint, key, {"f": []}, {("main", ()): [], key: [], ("x", 1): []})
            self.refused(UnknownPoint, key, {"f": ["wrong"]}, {key: ["wrong"]})

    def test_variables_of_closures(self):
        for value in any_values() + ["x", "c", "n", "y", "h", "f", "main", "nobody", ["a"], ("a",)]:
            self.refused(UnknownName, value, {"g": ["a"], "f": ["a", value, "wrong"], "u": ["wrong"]},
                {("f", ()): ["wrong"]})
        for value in ("y", "n", "h", "g"):
            self.refused(UnknownName, value, {"g": ("x", "c", value)}, {})

    def test_variables_of_frames(self):
        for value in any_values() + ["y", "n", "h", "f", "main", "nobody", ["a"], ("a",)]:
            frames = {("main", ()): ["a"], ("f", (0,)): ["x", value, "wrong"], ("f", ()): ["wrong"]}
            self.refused(UnknownName, value, {"f": ["a"]}, frames)
        for value in ("x", "c", "n", "y"):
            self.refused(UnknownName, value, {}, {("main", (0,)): ["a", "b", value]})

    def test_the_order_of_the_errors(self):
        wrong = ["wrong"]
        self.refused(UnknownName, "main", {"f": wrong, "main": wrong, "x": wrong}, {("x", ()): wrong})
        self.refused(UnknownName, "x", {"f": wrong, "x": wrong, "main": wrong}, {("x", ()): wrong})
        key = ("f", (7,))
        self.refused(UnknownPoint, key, {"f": wrong}, {("f", ()): ["other"], key: wrong, ("x", ()): wrong})
        self.refused(UnknownName, wrong[0], {"g": ["a"], "f": wrong}, {("f", ()): ["other"]})
        self.refused(UnknownName, "c", {"u": ["a"], "f": ["c"], "g": ["y"]}, {})
        self.refused(UnknownName, "y", {"u": ["a"], "g": ["y"], "f": ["c"]}, {})
        self.refused(UnknownName, "other", {"f": ["a"]}, {("g", ()): ["other"], ("f", ()): wrong})

    def test_later_changes(self):
        things, more = ["a"], ["x", "c"]
        closures, frames = {"f": things}, {("f", ()): more}
        told = Told(self.program, closures, frames)
        things.append("b")
        more.clear()
        closures["g"] = ["a"]
        del closures["f"]
        frames[("main", ())] = ["a"]
        self.assertEqual(told, Told(self.program, {"f": ["a"]}, {("f", ()): ["c", "x"]}))

    def test_arguments_stay(self):
        closures, frames = {"f": ["b", "a", "b"], "g": ("x",)}, {("f", ()): ["x", "c", "x"]}
        Told(self.program, closures, frames)
        self.assertEqual(closures, {"f": ["b", "a", "b"], "g": ("x",)})
        self.assertEqual(frames, {("f", ()): ["x", "c", "x"]})


def hashable(value):
    try:
        hash(value)
    except TypeError:
        return False
    return True


class SignsTest(unittest.TestCase):
    def test_both_and_one_of_both(self):
        program = small()
        one = Told(program, {"f": ["a", "b"], "g": ["x"]}, {("f", ()): ["x", "a"], ("g", ()): ["y"]})
        other = Told(program, {"f": ["z", "b"]}, {("f", ()): ["a", "c"], ("main", ()): ["b"]})
        self.assertEqual(one & other, Told(program, {"f": ["b"]}, {("f", ()): ["a"]}))
        self.assertEqual(one | other, Told(program, {"f": ["a", "b", "z"], "g": ["x"]}, {
            ("f", ()): ["a", "c", "x"], ("g", ()): ["y"], ("main", ()): ["b"],
        }))
        self.assertEqual((one | other).closure("f"), ("a", "b", "z"))
        self.assertEqual((one & other).program, program)

    def look(self, one, other):
        """Both signs, at all places."""
        first, second, both, any_of = table(one), table(other), table(one & other), table(one | other)
        for part in (0, 1):
            for key in first[part]:
                kept, more = set(first[part][key]), set(second[part][key])
                self.assertEqual(both[part][key], tuple(sorted(kept & more)))
                self.assertEqual(any_of[part][key], tuple(sorted(kept | more)))

    def test_all_classes(self):
        program = small()
        for one in keepers_of(program):
            for other in keepers_of(small()):
                self.look(one, other)

    def test_many_keepers(self):
        for at, program in enumerate(programs(150)):
            chance = random.Random(at)
            one, other = made_keeper(chance, program), made_keeper(chance, program)
            before = table(one), table(other)
            self.look(one, other)
            self.assertEqual((table(one), table(other)), before)
            self.assertTrue(one & one == one == one | one)
            self.assertEqual((one & other) | one, one)

    def test_other_programs(self):
        one, other = small(), Program(Function("main", ["z"], things=["b", "a"]))
        for keeper in keepers_of(one):
            for further in keepers_of(other):
                for sign in (lambda a, b: a & b, lambda a, b: a | b):
                    for pair in ((keeper, further), (further, keeper)):
                        with self.assertRaises(OtherProgram) as caught:
                            sign(*pair)
                        self.assertEqual(vars(caught.exception), {})

    def test_equal_programs(self):
        one, other = small(), small()
        self.assertIsNot(one, other)
        self.assertEqual(Plain(one) & Plain(other), Plain(one))
        self.assertEqual(Plain(one) | Told(other, {}, {}), Plain(other))


if __name__ == "__main__":
    unittest.main()
