"""What changes make of programs, and the errors of their classes, one behind the other."""

import copy
import unittest

from heldby.changes import Change, Grafting, Lifting, Pruning, Renaming, Sinking
from heldby.errors import (
    DuplicateName, Endless, GivenAway, InUse, InvalidIndex, InvalidName, InvalidProgram, NotSame, OtherProgram, TooLong,
    TooMany, UnknownName, WrongCount, WrongKind,
)
from heldby.programs import Program
from heldby.statements import Add, Call, Either, Function, Give, Show
from tests.makers import programs
from tests.samples import any_values


def nest():
    """g stands in f, f and u in main; u and v are not used, and v calls g's sibling e."""
    g = Function("g", ["y"], numbers=["m"], body=[Show("a"), Either([Call("e", ["y"])], [Add("n", 2)]),
        Call("e", ["a"])])
    e = Function("e", ["z"], body=[Show("z"), Show("a"), Either([Call("e", ["a"])], [Add("n", 1)])])
    f = Function("f", ["x"], things=["w"], functions=[g, e], body=[Call("g", ["w"]), Show("x")])
    v = Function("v", body=[Call("u", []), Give("u")])
    u = Function("u", functions=[v], body=[Show("a")])
    return Program(Function("main", ["a"], things=["b"], numbers=["n"], functions=[f, u],
        body=[Call("f", ["b"]), Give("f")]))


class ErrorsTest(unittest.TestCase):
    def raised(self, kind, fields, call):
        with self.assertRaises(kind) as caught:
            call()
        self.assertIs(type(caught.exception), kind)
        self.assertEqual(list(vars(caught.exception)), list(fields))
        for name, value in fields.items():
            self.assertIs(vars(caught.exception)[name], value)

    def value(self, kind, value, call):
        self.raised(kind, {"value": value}, call)


class RenamingTest(ErrorsTest):
    def test_results(self):
        change = Renaming(nest(), {"f": "ff", "a": "x", "x": "a", "n": "n", "u": "v", "v": "u", "main": "top"})
        g = Function("g", ["y"], numbers=["m"],
            body=[Show("x"), Either([Call("e", ["y"])], [Add("n", 2)]), Call("e", ["x"])])
        e = Function("e", ["z"], body=[Show("z"), Show("x"), Either([Call("e", ["x"])], [Add("n", 1)])])
        f = Function("ff", ["a"], things=["w"], functions=[g, e], body=[Call("g", ["w"]), Show("a")])
        u = Function("u", body=[Call("v", []), Give("v")])
        v = Function("v", functions=[u], body=[Show("x")])
        want = Function("top", ["x"], things=["b"], numbers=["n"], functions=[f, v],
            body=[Call("ff", ["b"]), Give("ff")])
        self.assertEqual(change.result, Program(want))
        self.assertEqual(change.program, nest())
        self.assertIsInstance(change, Change)
        self.assertEqual(Renaming(program=nest(), names={}).result, nest())

    def test_each_name(self):
        program = nest()
        for name in [*program.functions, *[x for f in program.functions for x in program.variables(f)]]:
            result = Renaming(program, {name: "newname"}).result
            names = [*result.functions, *[x for f in result.functions for x in result.variables(f)]]
            self.assertIn("newname", names)
            self.assertNotIn(name, names)
            self.assertEqual(Renaming(result, {"newname": name}).result, program)
            self.assertEqual(Renaming(program, {name: name}).result, program)

    def test_inverse(self):
        for names in ({}, {"a": "b", "b": "a"}, {"f": "x", "x": "f"}, {"a": "q", "b": "a", "n": "b"},
            {"main": "f", "f": "main"}):
            change = Renaming(nest(), names)
            back = change.inverse()
            self.assertIsInstance(back, Renaming)
            self.assertEqual((back.program, back.result), (change.result, nest()))
            self.assertEqual(back.inverse().result, change.result)
            self.assertIn("inverse", vars(Renaming))

    def test_given_names_are_copied(self):
        names = {"a": "q"}
        change = Renaming(nest(), names)
        self.assertEqual(names, {"a": "q"})
        names["b"] = "r"
        names["a"] = "s"
        self.assertEqual(change.inverse().result, nest())
        self.assertEqual(change.inverse().program, change.result)

    def test_unknown_names(self):
        for value in any_values():
            if isinstance(value, (list, dict)) or (isinstance(value, tuple) and value and value != ("a",)):
                continue
            try:
                hash(value)
            except TypeError:
                continue
            self.value(UnknownName, value, lambda: Renaming(nest(), {"a": "q", value: None, "nobody": "q"}))
        self.value(UnknownName, "nobody", lambda: Renaming(nest(), {"a": "B", "nobody": "q", "nil": 1}))
        self.value(UnknownName, "nil", lambda: Renaming(nest(), {"nil": 1, "nobody": "q"}))

    def test_invalid_names(self):
        for value in any_values():
            self.value(InvalidName, value, lambda: Renaming(nest(), {"a": "b", "b": value, "n": "B"}))
        self.value(InvalidName, "ninechars", lambda: Renaming(nest(), {"a": "ninechars"}))
        self.assertEqual(Renaming(nest(), {"a": "eightcha"}).result.function("main").parameters, ("eightcha",))

    def test_duplicate_names(self):
        # The name that stands behind the other one in the text.
        for names, value in (({"a": "b"}, "b"), ({"b": "a"}, "a"), ({"x": "main"}, "main"), ({"main": "f"}, "f"),
            ({"f": "q", "v": "q"}, "q"), ({"a": "q", "b": "q", "n": "q", "x": "w"}, "q"), ({"a": "u"}, "u")):
            with self.assertRaises(DuplicateName) as caught:
                Renaming(nest(), names)
            self.assertEqual(vars(caught.exception), {"value": value})


class PruningTest(ErrorsTest):
    def without_u(self):
        main = nest().main
        return Program(Function("main", ["a"], things=["b"], numbers=["n"], functions=main.functions[:1],
            body=main.body))

    def test_results(self):
        self.assertEqual(Pruning(nest()).result, self.without_u())
        for names in (("u",), ("u", "v"), ("v", "u"), ("u", "u"), ("v", "u", "v")):
            self.assertEqual(Pruning(nest(), *names).result, self.without_u())
        self.assertEqual(Pruning(self.without_u()).result, self.without_u())
        only_v = Pruning(nest(), "v").result
        self.assertEqual(only_v.functions, ("main", "f", "g", "e", "u"))
        self.assertEqual(only_v.function("u").body, nest().function("u").body)
        self.assertEqual(Pruning(only_v).result, self.without_u())
        self.assertEqual(Pruning(program=nest()).program, nest())

    def test_functions_that_others_inside_call(self):
        # u is called by v, which is taken out with it; both call one another.
        one = Function("p", body=[Either([Call("q", [])], [])])
        other = Function("q", body=[Call("p", [])])
        program = Program(Function("main", functions=[one, other]))
        self.assertEqual(Pruning(program, "q", "p").result, Program(Function("main")))
        self.assertEqual(Pruning(program).result, Program(Function("main")))
        self.value(InUse, "p", lambda: Pruning(program, "p"))
        self.value(InUse, "q", lambda: Pruning(program, "q"))

    def test_unknown_names(self):
        for value in [*any_values(), "main", "nobody", "a", "n", "x"]:
            self.value(UnknownName, value, lambda: Pruning(nest(), value))
            self.value(UnknownName, value, lambda: Pruning(nest(), "f", "u", value, "nil"))

    def test_functions_in_use(self):
        for name in ("f", "g", "e"):
            self.value(InUse, name, lambda: Pruning(nest(), name))
        # The first one of the names that is in use, in their order; f is called by main, g by f, which stays or not.
        self.value(InUse, "f", lambda: Pruning(nest(), "u", "g", "f"))
        # e is called by g and by itself alone.
        self.value(InUse, "g", lambda: Pruning(nest(), "u", "e", "g"))
        self.value(InUse, "g", lambda: Pruning(nest(), "g", "e"))
        giver = Program(Function("main", functions=[Function("g"), Function("f", body=[Give("g")])]))
        self.value(InUse, "g", lambda: Pruning(giver, "g"))
        self.assertEqual(Pruning(giver).result, Program(Function("main")))


class GraftingTest(ErrorsTest):
    def test_results(self):
        program = nest()
        graft = Function("k", ["kk"], functions=[Function("kkk", body=[Give("k")])],
            body=[Show("kk"), Call("f", ["a"])])
        for parent in program.functions:
            many = len(program.function(parent).functions)
            for index in range(many + 1):
                result = Grafting(program, parent, graft, index=index).result
                inner = result.function(parent).functions
                self.assertEqual(inner[index], graft)
                self.assertEqual(inner[:index] + inner[index + 1:], program.function(parent).functions)
                self.assertEqual(Pruning(result, "k").result, program)
                self.assertEqual(result.parent("k"), parent)
                self.assertEqual(result.used, program.used)
        self.assertEqual(Grafting(program, "main", graft).result, Grafting(program, "main", graft, index=0).result)
        self.assertEqual(Grafting(program=program, parent="f", function=graft, index=1).result,
            Grafting(program, "f", graft, index=1).result)
        with self.assertRaises(TypeError):
            Grafting(program, "f", graft, 1)

    def test_unknown_parents(self):
        for value in [*any_values(), "nobody", "a", "n"]:
            self.value(UnknownName, value, lambda: Grafting(nest(), value, None, index=None))

    def test_indexes(self):
        for parent, many in (("main", 2), ("f", 2), ("g", 0), ("u", 1)):
            for value in [*any_values(), many + 1, -1, 10 ** 30, True, False]:
                if isinstance(value, int) and not isinstance(value, bool) and 0 <= value <= many:
                    continue
                self.value(InvalidIndex, value, lambda: Grafting(nest(), parent, None, index=value))

    def test_errors_of_the_result(self):
        place = lambda *told, **more: self.place(*told, **more)
        for value in any_values():
            if not isinstance(value, Function):
                place("", value)
        place("", Function("K"))
        place("k", Function("k", ["X"]))
        place("k", Function("k", body=[None]))
        place("", Function("k", functions=[None]))
        self.value(DuplicateName, "f", lambda: Grafting(nest(), "g", Function("f")))
        self.value(DuplicateName, "x", lambda: Grafting(nest(), "main", Function("k", ["x"])))
        for function, kind, value in (
            (Function("k", body=[Show("w")]), UnknownName, "w"),
                (Function("k", body=[Call("g", ["a"])]), UnknownName, "g"),
            (Function("k", body=[Call("main", ["a"])]), UnknownName, "main"),
            (Function("k", body=[Add("a", 1)]), WrongKind, "a"), (Function("k", body=[Call("f", [])]), WrongCount, "f"),
            (Function("k", body=[Call("k", [])]), Endless, "k"),
        ):
            with self.assertRaises(kind) as caught:
                Grafting(nest(), "main", function)
            self.assertEqual(vars(caught.exception), {"value": value})

    def place(self, place, value):
        with self.assertRaises(InvalidProgram) as caught:
            Grafting(nest(), "main", value)
        self.assertEqual(vars(caught.exception), {"place": place})

    def test_limits_of_the_result(self):
        def chained(many, letter="k"):
            inner = []
            for at in range(many):
                inner = [Function(f"{letter}{'abcdefghijkl'[at]}", functions=inner)]
            return inner[0]

        self.assertEqual(len(Grafting(nest(), "main",
            Function("k", functions=[Function(f"k{x}") for x in "abc"])).result), 10)
        for parent, function, limit in (
            ("main", Function("k", functions=[Function(f"k{x}") for x in "abcd"]), 10), ("g", chained(3), 5),
            ("f", Function("k", [f"k{x}" for x in "abcdefghi"]), 12),
                ("main", Function("k", body=[Show("a")] * 46), 60),
        ):
            with self.assertRaises(TooMany) as caught:
                Grafting(nest(), parent, function)
            self.assertEqual(vars(caught.exception), {"limit": limit})
        Grafting(nest(), "g", chained(2))
        Grafting(nest(), "f", Function("k", [f"k{x}" for x in "abcdefgh"]))
        slow = Function("k", body=[Call("ka", [])] * 9, functions=[Function("ka", body=[Show("a")] * 10)])
        with self.assertRaises(TooLong) as caught:
            Grafting(nest(), "main", slow)
        self.assertEqual(vars(caught.exception), {"limit": 100})


class LiftingTest(ErrorsTest):
    def test_results(self):
        change = Lifting(nest(), "e", "a", "q")
        g = Function("g", ["y"], numbers=["m"],
            body=[Show("a"), Either([Call("e", ["y", "a"])], [Add("n", 2)]), Call("e", ["a", "a"])])
        e = Function("e", ["z", "q"], body=[Show("z"), Show("q"), Either([Call("e", ["q", "q"])], [Add("n", 1)])])
        f = Function("f", ["x"], things=["w"], functions=[g, e], body=[Call("g", ["w"]), Show("x")])
        main = nest().main
        self.assertEqual(change.result, Program(Function("main", ["a"], things=["b"], numbers=["n"],
            functions=[f, main.functions[1]], body=main.body)))
        self.assertEqual(Lifting(program=nest(), name="e", variable="a", parameter="q"), change)

    def test_functions_inside(self):
        # h in g shows x of f; k beside g calls g, too, and is not used.
        h = Function("h", ["hh"], body=[Show("x"), Either([Call("g", ["x"])], []), Give("h")])
        g = Function("g", ["y"], functions=[h], body=[Call("h", ["x"]), Give("h")])
        k = Function("k", body=[Call("g", ["x"])])
        f = Function("f", ["x"], functions=[g, k], body=[Call("g", ["x"]), Show("x")])
        program = Program(Function("main", ["a"], functions=[f], body=[Call("f", ["a"])]))
        h = Function("h", ["hh"], body=[Show("q"), Either([Call("g", ["q", "q"])], []), Give("h")])
        g = Function("g", ["y", "q"], functions=[h], body=[Call("h", ["q"]), Give("h")])
        k = Function("k", body=[Call("g", ["x", "x"])])
        f = Function("f", ["x"], functions=[g, k], body=[Call("g", ["x", "x"]), Show("x")])
        self.assertEqual(Lifting(program, "g", "x", "q").result,
            Program(Function("main", ["a"], functions=[f], body=[Call("f", ["a"])])))
        self.value(GivenAway, "h", lambda: Lifting(program, "h", "x", "q"))

    def test_functions_that_are_not_used(self):
        k = Function("k", body=[Show("a")])
        program = Program(Function("main", ["a"], functions=[k, Function("j", body=[Call("k", [])])]))
        result = Lifting(program, "k", "a", "b").result
        self.assertEqual(result.function("k"), Function("k", ["b"], body=[Show("b")]))
        self.assertEqual(result.function("j").body, (Call("k", ["a"]),))
        given = Program(Function("main", ["a"], functions=[k, Function("j", body=[Give("k")])]))
        self.value(GivenAway, "k", lambda: Lifting(given, "k", "a", "b"))

    def test_unknown_functions(self):
        for value in [*any_values(), "main", "nobody", "a"]:
            self.value(UnknownName, value, lambda: Lifting(nest(), value, None, None))

    def test_variables_that_cannot_be_lifted(self):
        for name, needs in (("e", ("a",)), ("g", ("a",)), ("f", ("a",)), ("u", ("a",)), ("v", ("a",))):
            self.assertLessEqual(set(needs), set(nest().needs(name)))
            for value in [*any_values(), "nobody", "f", "n", "m", "b", "w", "x", "y", "z"]:
                # n is needed, but is a number.
                self.value(UnknownName, value, lambda: Lifting(nest(), name, value, None))

    def test_functions_that_are_given(self):
        self.value(GivenAway, "f", lambda: Lifting(nest(), "f", "a", None))
        self.value(GivenAway, "u", lambda: Lifting(nest(), "u", "a", 5))

    def test_names_of_parameters(self):
        for value in [*any_values(), "B", "ninechars"]:
            self.value(InvalidName, value, lambda: Lifting(nest(), "g", "a", value))
        for value in ("a", "main", "v", "n", "g", "y", "m", "z"):
            # The second one in the text is the duplicate: y is itself behind what stands in g and ahead of it.
            with self.assertRaises(DuplicateName) as caught:
                Lifting(nest(), "g", "a", value)
            self.assertEqual(vars(caught.exception), {"value": value})

    def test_limits(self):
        inner = Function("h", [f"h{x}" for x in "abcde"], body=[Show("a")])
        g = Function("g", [f"g{x}" for x in "abcde"], functions=[inner], body=[Call("h", ["ga"] * 5)])
        program = Program(Function("main", ["a"], things=["b"], functions=[g], body=[Call("g", ["a"] * 5)]))
        for name in ("g", "h"):
            with self.assertRaises(TooMany) as caught:
                Lifting(program, name, "a", "q")
            self.assertEqual(vars(caught.exception), {"limit": 12})
        fitting = Program(Function("main", ["a"], functions=[g], body=[Call("g", ["a"] * 5)]))
        for name in ("g", "h"):
            self.assertEqual(len(Lifting(fitting, name, "a", "q").result.chain_things("h")), 12)


class SinkingTest(ErrorsTest):
    def sunk(self, calls, within=(), parameters=("y",), outer=()):
        """g with parameters is called by main with each of some lists of things, and within g itself."""
        inner = Function("h", body=[Either([Call("g", things) for things in within], []), Show("y"), Show("b")])
        g = Function("g", parameters, functions=[inner], body=[Show("y"), Call("h", [])])
        others = [Function("k", things=["c"], body=[Call("g", things) for things in outer])]
        return Program(Function("main", ["a", "b"], functions=[g, *others],
            body=[Call("g", things) for things in calls]))

    def test_results(self):
        program = self.sunk([["a"], ["a"]], [["y"], ["a"]])
        change = Sinking(program, "g", "y")
        self.assertEqual(change.variable, "a")
        inner = Function("h", body=[Either([Call("g", []), Call("g", [])], []), Show("a"), Show("b")])
        g = Function("g", functions=[inner], body=[Show("a"), Call("h", [])])
        self.assertEqual(change.result, Program(Function("main", ["a", "b"],
            functions=[g, program.main.functions[1]], body=[Call("g", []), Call("g", [])])))
        self.assertIsInstance(vars(Sinking)["variable"], property)
        self.assertEqual(Sinking(program=program, name="g", parameter="y"), change)
        with self.assertRaises(AttributeError):
            change.variable = "b"

    def test_several_parameters(self):
        for at, parameters in enumerate((["y", "p", "q"], ["p", "y", "q"], ["p", "q", "y"])):
            things = ["b", "b"]
            things.insert(at, "a")
            again = ["y", "p"]
            again.insert(at, "y")
            program = self.sunk([things], [again], parameters)
            result = Sinking(program, "g", "y").result
            self.assertEqual(result.function("g").parameters, ("p", "q"))
            self.assertEqual(result.main.body, (Call("g", ["b", "b"]),))
            self.assertEqual(result.function("h").body[0], Either([Call("g", ["a", "p"])], []))

    def test_the_way_back(self):
        lifted = Lifting(nest(), "e", "a", "q")
        back = Sinking(lifted.result, "e", "q")
        self.assertEqual((back.result, back.variable), (nest(), "a"))
        self.assertEqual((lifted + back), Renaming(nest(), {}))
        self.value(NotSame, "z", lambda: Sinking(nest(), "e", "z"))

    def test_unknown_names(self):
        program = self.sunk([["a"]])
        for value in [*any_values(), "main", "nobody", "a", "y"]:
            self.value(UnknownName, value, lambda: Sinking(program, value, None))
        for value in [*any_values(), "nobody", "a", "b", "g", "h", "c"]:
            self.value(UnknownName, value, lambda: Sinking(program, "g", value))
        self.value(UnknownName, "m", lambda: Sinking(nest(), "g", "m"))
        self.value(UnknownName, "w", lambda: Sinking(nest(), "f", "w"))

    def test_functions_that_are_given(self):
        self.value(UnknownName, "y", lambda: Sinking(nest(), "f", "y"))
        self.value(GivenAway, "f", lambda: Sinking(nest(), "f", "x"))
        g = Function("g", ["y"], body=[Show("y")])
        unused = Function("k", body=[Give("g")])
        program = Program(Function("main", ["a"], functions=[g, unused], body=[Call("g", ["a"])]))
        self.value(GivenAway, "g", lambda: Sinking(program, "g", "y"))

    def test_calls_that_are_not_the_same(self):
        for program in (
            self.sunk([["a"], ["b"]]), self.sunk([["a"]], [["b"]]), self.sunk([["a"]], [["y"], ["b"]]),
            # None outside, within or not; and calls of a function that is not used.
            self.sunk([]), self.sunk([], [["y"]]), self.sunk([], [["a"]]), self.sunk([["a"]], outer=[["b"]]),
            self.sunk([["a"]], outer=[["c"]]),
            # c belongs to k, which is not around g.
            self.sunk([], outer=[["c"]]), self.sunk([], [["y"]], outer=[["c"], ["c"]]),
        ):
            self.value(NotSame, program.function("g").parameters[0], lambda: Sinking(program, "g", "y"))
        for program in (self.sunk([["a"]], outer=[["a"]]), self.sunk([], outer=[["b"]]),
            self.sunk([["b"]], [["b"], ["y"]])):
            self.assertIn(Sinking(program, "g", "y").variable, ("a", "b"))
        # The variable of another parameter of the same function is none around it.
        program = self.sunk([["a", "b"]], [["p", "y"]], ["y", "p"])
        self.value(NotSame, program.function("g").parameters[0], lambda: Sinking(program, "g", "y"))

    def test_a_variable_in_between(self):
        # g is called in f and beside it only with f's own things; f is around g.
        g = Function("g", ["y"], body=[Show("y")])
        k = Function("k", body=[Call("g", ["w"])])
        f = Function("f", things=["w"], functions=[g, k], body=[Call("g", ["w"]), Call("k", [])])
        program = Program(Function("main", functions=[f], body=[Call("f", [])]))
        self.assertEqual(Sinking(program, "g", "y").variable, "w")


class SumsTest(ErrorsTest):
    def changes(self):
        program = nest()
        renaming = Renaming(program, {"a": "aa", "e": "ee"})
        pruning = Pruning(renaming.result)
        grafting = Grafting(pruning.result, "f", Function("k"), index=1)
        lifting = Lifting(grafting.result, "ee", "aa", "q")
        sinking = Sinking(lifting.result, "ee", "q")
        return [renaming, pruning, grafting, lifting, sinking]

    def test_sums(self):
        one, two, three, four, five = self.changes()
        whole = one + two + three + four + five
        self.assertIsInstance(whole, Change)
        self.assertEqual((whole.program, whole.result), (nest(), five.result))
        self.assertEqual(one + (two + (three + (four + five))), whole)
        self.assertEqual((one + two) + (three + four), one + (two + three) + four)
        self.assertEqual(((one + two).program, (one + two).result), (nest(), two.result))

    def test_other_programs(self):
        changes = self.changes()
        for at, one in enumerate(changes):
            for index, other in enumerate(changes):
                if one.result == other.program:
                    self.assertEqual((one + other).result, other.result)
                else:
                    self.assertNotEqual(index, at + 1)
                    with self.assertRaises(OtherProgram) as caught:
                        one + other
                    self.assertEqual(vars(caught.exception), {})

    def test_sums_with_other_values(self):
        for value in any_values():
            for call in (lambda: self.changes()[0] + value, lambda: value + self.changes()[0]):
                with self.assertRaises(TypeError):
                    call()

    def test_equal_changes(self):
        one, two, three, four, five = self.changes()
        self.assertTrue(one == Renaming(nest(), {"e": "ee", "a": "aa", "b": "b"}))
        self.assertTrue(three + four + five == three)
        self.assertTrue(Renaming(nest(), {}) == Renaming(nest(), {"a": "b", "b": "a"}) +
            Renaming(Renaming(nest(), {"a": "b", "b": "a"}).result, {"a": "b", "b": "a"}))
        unused = Pruning(nest())
        self.assertTrue(unused == Pruning(nest(), "u"))
        again = Grafting(unused.result, "main", nest().function("u"), index=1)
        self.assertTrue(unused + again == Renaming(nest(), {"a": "a"}))
        self.assertFalse(one == two)
        self.assertFalse(one == Renaming(nest(), {"e": "ee"}))
        self.assertFalse(unused == Pruning(nest(), "v"))
        self.assertFalse(Pruning(Renaming(nest(), {"u": "uu"}).result) == unused)
        self.assertTrue(one != two)
        for value in any_values():
            self.assertFalse(one == value)
            self.assertFalse(value == one)

    def test_classes(self):
        for made in (Renaming, Pruning, Grafting, Lifting, Sinking):
            self.assertTrue(issubclass(made, Change))
            self.assertEqual(made.__module__, "heldby.changes")
        for name in ("program", "result"):
            self.assertIsInstance(vars(Change)[name], property)
        for name in ("__call__", "__add__", "__eq__"):
            self.assertIn(name, vars(Change))
        for change in self.changes():
            for name in ("program", "result"):
                with self.assertRaises(AttributeError):
                    setattr(change, name, nest())


class ConventionsTest(unittest.TestCase):
    def test_programs_stay(self):
        for program in programs(60):
            if len(program) == 10:
                continue
            before = copy.deepcopy(program.main)
            Renaming(program, {program.functions[0]: "newname"})
            Pruning(program)
            Grafting(program, program.functions[0], Function("newname"), index=0)
            self.assertEqual(program.main, before)

    def test_equal_calls(self):
        for make in (
            lambda: Renaming(nest(), {"a": "q"}), lambda: Pruning(nest(), "u"),
                lambda: Grafting(nest(), "u", Function("k")),
            lambda: Lifting(nest(), "e", "a", "q"), lambda: Sinking(Lifting(nest(), "e", "a", "q").result, "e", "q"),
        ):
            self.assertEqual(make(), make())
            self.assertEqual(make().result, make().result)


if __name__ == "__main__":
    unittest.main()
