import random
import time
import unittest
from unittest import mock

from heldby.comparing import keeps_no_more
from heldby.errors import OtherProgram, TooMany
from heldby.growth import grown, growth, is_grown
from heldby.keepers import Plain, Told, points
from heldby.layouts import Layout
from heldby.limits import STANDS
from heldby.programs import Program
from heldby.statements import Call, Either, Function, Give, Show
from tests import turners
from tests.makers import changed, made_keeper, made_layout, made_told, programs
from tests.plain_growth import Counted


def frames(program, **kept):
    """A keeper of frames: names of functions to dicts from points to things."""
    return Told(program, {}, {(name, point): things for name, rows in kept.items() for point, things in rows.items()})


def everywhere(program, name, things):
    return Told(program, {}, {(name, point): things for point in points(program, name)})


class SmallTest(unittest.TestCase):
    def test_a_single_frame(self):
        program = Program(Function("main", ["a", "b"], things=["c"], body=[Show("a"), Show("b")]))
        none = Told(program, {}, {})
        for kept, many in (((), 0), (("a",), 1), (("a", "b"), 2), (("a", "b", "c"), 3)):
            for point in ((), (0,), (1,)):
                one = frames(program, main={point: kept})
                self.assertEqual(growth(one, none), many)
                self.assertEqual(growth(none, one), 0)
                self.assertEqual(growth(one, one), 0)
        # Things at different moments are not counted together.
        self.assertEqual(growth(frames(program, main={(): ["a"], (0,): ["b"], (1,): ["a", "c"]}), none), 2)
        self.assertEqual(growth(Told(program, {}, {("main", ()): "abc"}), frames(program, main={(): ["b"]})), 2)

    def test_things_of_several_frames(self):
        program = turners.ladder()
        none = Told(program, {}, {})
        first, second = frames(program, f={(0,): ["p", "pp"]}), frames(program, g={(0,): ["qq", "qqq"]})
        self.assertEqual(growth(first, none), 2)
        # pp of f is q of g and r of h, so it is one thing; p is a of main.
        self.assertEqual(growth(first | second, none), 4)
        self.assertEqual(growth(first | second | everywhere(program, "h", ["r", "rr"]), none), 5)
        self.assertEqual(growth(first | second | everywhere(program, "h", ["r", "rr"]), first), 3)
        self.assertEqual(growth(first | second, everywhere(program, "h", ["r"])), 4)
        self.assertEqual(growth(frames(program, f={(0,): ["pp"]}), frames(program, h={(): ["r"], (0,): ["r"]})), 1)

    def test_what_is_kept_farther_down_or_farther_up(self):
        f = Function("f", ["x"], body=[Show("x")])
        program = Program(Function("main", ["a"], functions=[f], body=[Call("f", ["a"])]))
        below, above = frames(program, main={(0,): ["a"]}), everywhere(program, "f", ["x"])
        self.assertEqual([growth(below, above), growth(above, below)], [1, 0])
        # Behind the call main is at the same point, and f does not stand any more.
        self.assertEqual(growth(below, above | frames(program, main={(0,): ["a"]})), 0)
        self.assertEqual(growth(frames(program, main={(): ["a"]}), above), 1)

    def test_groups_that_are_gone(self):
        # g does not see y of f; main's a goes on to be seen.
        g = Function("g", body=[Show("a")])
        f = Function("f", things=["y"], body=[Call("g", []), Show("y")])
        program = Program(Function("main", ["a"], functions=[f, g], body=[Call("f", [])]))
        none = Told(program, {}, {})
        self.assertEqual(growth(frames(program, f={(0,): ["y"]}), none), 1)
        self.assertEqual(growth(frames(program, f={(0,): ["y"]}), frames(program, f={(0,): ["y"]})), 0)
        self.assertEqual(growth(frames(program, f={(0,): ["y"]}) | everywhere(program, "g", ["a"]), none), 2)
        # What g keeps covers a, but never y.
        self.assertEqual(growth(frames(program, f={(0,): ["y", "a"]}), everywhere(program, "g", ["a"])), 2)
        self.assertEqual(growth(frames(program, f={(0,): ["y", "a"]}),
            everywhere(program, "g", ["a"]) | frames(program, f={(0,): ["a"]})), 1)

    def test_closures(self):
        program = turners.ladder()
        none = Told(program, {}, {})
        for kept in ((), ("a",), ("b", "c"), ("a", "b", "c")):
            self.assertEqual(growth(Told(program, {"k": kept}, {}), none), len(kept))
            self.assertEqual(growth(none, Told(program, {"k": kept}, {})), 0)
        self.assertEqual(growth(Told(program, {"k": ["a", "b", "c"]}, {}), Told(program, {"k": ["b"]}, {})), 2)
        # Closures of functions that are never given are never held.
        self.assertEqual(growth(Told(program, {"f": ["a"], "g": ["b"], "h": ["c"]}, {}), none), 0)
        # A closure and a frame are never there at once: the greater number counts.
        both = Told(program, {"k": ["a", "b"]}, {("k", (1,)): ["c"]})
        self.assertEqual(growth(both, none), 2)
        both = Told(program, {"k": ["a"]}, {("k", (1,)): ["b", "c"]})
        self.assertEqual(growth(both, none), 2)

    def test_only_one_closure_is_held(self):
        # Each world may hold many closures of g, each with a thing of its own; only one of them counts.
        g = Function("g", body=[Show("y")])
        f = Function("f", things=["y"], functions=[g], body=[Give("g"), Give("g"), Either([Call("f", [])], [])])
        program = Program(Function("main", functions=[f], body=[Call("f", [])]))
        self.assertEqual(growth(Told(program, {"g": ["y"]}, {}), Told(program, {}, {})), 1)

    def test_a_closure_that_is_called_is_dropped(self):
        g = Function("g", ["x"], body=[Show("a"), Show("x")])
        program = Program(Function("main", ["a"], functions=[g], body=[Give("g")]))
        one, none = Told(program, {"g": ["a"]}, {("g", ()): ["x"]}), Told(program, {}, {})
        self.assertEqual(growth(one, none), 1)
        # Neither does what the closure keeps by other count while its function runs.
        self.assertEqual(growth(frames(program, g={(1,): ["a"]}), Told(program, {"g": ["a"]}, {})), 1)

    def test_closures_in_later_turns(self):
        # f's closure holds x, and g's one holds x and y; the world needs three turns for what h keeps.
        h = Function("h", ["z"], body=[Show("z")])
        g = Function("g", ["y"], functions=[h], body=[Give("h")])
        f = Function("f", ["x"], functions=[g], body=[Give("g")])
        program = Program(Function("main", functions=[f], body=[Give("f")]))
        none = Told(program, {}, {})
        self.assertEqual(growth(Told(program, {"h": ["x", "y"]}, {("h", ()): ["x", "y", "z"]}), none), 3)
        self.assertEqual(growth(Told(program, {"h": ["x", "y"]}, {("h", ()): ["x"]}), none), 2)

    def test_things_in_two_variables_are_one(self):
        f = Function("f", ["x", "y"], body=[Show("x"), Show("y")])
        program = Program(Function("main", ["a", "b"], functions=[f],
            body=[Call("f", ["a", "a"]), Call("f", ["a", "b"])]))
        one, none = everywhere(program, "f", ["x", "y"]), Told(program, {}, {})
        self.assertEqual(growth(one, none), 2)
        self.assertEqual(growth(one, frames(program, main={(1,): ["a"]})), 1)
        same = Program(Function("main", ["a", "b"], functions=[f], body=[Call("f", ["a", "a"])]))
        self.assertEqual(growth(everywhere(same, "f", ["x", "y"]), Told(same, {}, {})), 1)
        self.assertEqual(growth(everywhere(same, "f", ["x"]), everywhere(same, "f", ["y"])), 0)

    def test_functions_that_no_world_reaches(self):
        k = Function("k", ["p"], things=["q"], body=[Show("p")])
        program = Program(Function("main", ["a"], functions=[k], body=[Show("a")]))
        self.assertEqual(growth(Told(program, {"k": ["a"]}, {("k", ()): ["p", "q", "a"]}), Plain(program)), 0)


class TurnsTest(unittest.TestCase):
    def test_own_things(self):
        program = turners.turning()
        plain, none = Plain(program), Told(program, {}, {})
        for kept, many in ((["x"], None), (["y"], None), (["a"], 1), (["x", "y"], None)):
            one = frames(program, f={(0, 0, 0): kept})
            self.assertEqual(growth(one, none), many)
            self.assertEqual(growth(none, one), 0)
        self.assertEqual(growth(frames(program, f={(): ["x", "y"]}), none), 2)
        self.assertEqual(growth(frames(program, f={(0, 1): ["x", "y"], (0,): ["x"]}), none), 2)
        # Of x and y together the one is kept by the caller, the other one is new.
        self.assertEqual(growth(frames(program, f={(0, 0, 0): ["x"]}), frames(program, f={(0, 0, 0): ["y"]})), 1)
        self.assertEqual(growth(frames(program, f={(0, 0, 0): ["y"]}), frames(program, f={(0, 0, 0): ["x"]})), 1)
        self.assertEqual(growth(plain, frames(program, f={(0, 0, 0): ["x"]})), 1)

    def test_the_same_thing(self):
        program = turners.staying()
        none = Told(program, {}, {})
        for point in points(program, "f"):
            self.assertEqual(growth(frames(program, f={point: ["x"]}), none), 1)
        self.assertEqual(growth(everywhere(program, "f", ["x", "a"]), none), 1)

    def test_exchanged_parameters(self):
        f = Function("f", ["x", "y"], body=[Either([Call("f", ["y", "x"])], [])])
        program = Program(Function("main", ["a", "b"], functions=[f], body=[Call("f", ["a", "b"])]))
        none = Told(program, {}, {})
        for kept in (["x"], ["y"], ["x", "y"]):
            # The other one of both is kept by the next frame, or one farther down keeps it by other.
            self.assertEqual(growth(frames(program, f={(0, 0, 0): kept}), none), 2)
            self.assertEqual(growth(frames(program, f={(0, 0, 0): kept}), frames(program, f={(): ["x"]})), 2)
            self.assertEqual(growth(frames(program, f={(0, 0, 0): kept}), frames(program, main={(0,): ["a"]})), 1)
        self.assertEqual(growth(frames(program, f={(0, 0, 0): ["x"]}), frames(program, f={(0, 0, 0): ["y"]})), 1)
        program = turners.exchanging()
        again = (0, 1, 0, 0, 0)
        for kept in ({(0, 0, 0): ["x"]}, {(0, 0, 0): ["z"]}, {again: ["y"]}, {again: ["x"]}):
            self.assertEqual(growth(frames(program, f=kept), Told(program, {}, {})), None)
        self.assertEqual(growth(frames(program, f={(): ["x", "y", "z"]}), Told(program, {}, {})), 3)
        body = [Either([Call("f", ["x", "z"])], [])]
        f = Function("f", ["x", "y"], things=["z"], body=body)
        program = Program(Function("main", ["a", "b"], functions=[f], body=[Call("f", ["a", "b"])]))
        self.assertEqual(growth(frames(program, f={(0, 0, 0): ["x"]}), Told(program, {}, {})), 1)
        self.assertEqual(growth(frames(program, f={(0, 0, 0): ["y"]}), Told(program, {}, {})), None)

    def test_rounds_of_two_functions(self):
        f = Function("f", ["x"], things=["y"], body=[Either([Call("g", ["y"])], [])])
        g = Function("g", ["z"], body=[Either([Call("f", ["z"])], [])])
        program = Program(Function("main", ["a"], functions=[f, g], body=[Call("f", ["a"])]))
        none = Told(program, {}, {})
        self.assertEqual(growth(frames(program, f={(0, 0, 0): ["x"]}), none), None)
        self.assertEqual(growth(frames(program, g={(0, 0, 0): ["z"]}), none), None)
        self.assertEqual(growth(frames(program, f={(0, 0, 0): ["x"]}), frames(program, g={(0, 0, 0): ["z"]})), 1)
        self.assertEqual(growth(frames(program, f={(0, 0, 0): ["y"]}), frames(program, g={(0, 0, 0): ["z"]})), 1)

    def test_rounds_that_closures_begin(self):
        # A call of the closure is a turn of its own: nothing is left behind from turn to turn.
        f = Function("f", ["x"], body=[Give("f"), Show("x")])
        program = Program(Function("main", functions=[f], body=[Give("f")]))
        self.assertEqual(growth(everywhere(program, "f", ["x"]), Told(program, {}, {})), 1)
        g = Function("g", things=["y"], body=[Either([Call("g", [])], [])])
        f = Function("f", ["x"], functions=[g], body=[Call("g", [])])
        program = Program(Function("main", functions=[f], body=[Give("f")]))
        one = frames(program, g={(0, 0, 0): ["y"]})
        self.assertEqual(growth(one, Told(program, {}, {})), None)
        self.assertEqual(growth(one, one), 0)

    def test_things_that_go_on_to_be_seen_are_not_left_behind(self):
        # The activation of f stays the same, so x is never gone.
        g = Function("g", body=[Either([Call("g", [])], []), Show("x")])
        f = Function("f", ["x"], functions=[g], body=[Call("g", [])])
        program = Program(Function("main", ["a"], functions=[f], body=[Call("f", ["a"])]))
        self.assertEqual(growth(everywhere(program, "g", ["x", "a"]), Told(program, {}, {})), 1)


class ByPlainMeansTest(unittest.TestCase):
    def test_many_programs(self):
        found = {}
        for at, program in enumerate(programs(400)):
            chance = random.Random(at)
            one = made_keeper(chance, program)
            other = made_keeper(chance, program) if at % 2 else changed(chance, one)
            many = growth(one, other)
            self.assertEqual(many, Counted(one, other).growth())
            self.assertEqual(many == 0, keeps_no_more(one, other))
            found[many] = found.get(many, 0) + 1
        self.assertGreater(len(found), 5)

    def test_functions_that_call_themselves(self):
        found = {}
        for program, one, other in turners.turners(600):
            for keepers in ((one, other), (other, one), (one, Told(program, {}, {})), (one | other, one)):
                many = growth(*keepers)
                self.assertEqual(many, Counted(*keepers).growth())
                self.assertEqual(many == 0, keeps_no_more(*keepers))
                found[many] = found.get(many, 0) + 1
        self.assertGreater(found[None], 100)
        self.assertGreater(min(found[0], found[1], found[2], found[3]), 40)

    def test_layouts(self):
        for at, program in enumerate(programs(150, 2)):
            chance = random.Random(at)
            one, other = made_layout(chance, program), made_layout(chance, program)
            self.assertEqual(growth(one, other), Counted(one, other).growth())
            self.assertEqual(growth(Layout.flat(program), Plain(program)), 0)
            self.assertEqual(growth(Plain(program), one), 0)
            many, less = growth(one, Plain(program)), growth(one & other, Plain(program))
            self.assertTrue(many is None or (less is not None and less <= many))

    def test_equal_keepers(self):
        for at, program in enumerate(programs(40)):
            chance = random.Random(at)
            one, told = made_keeper(chance, program), made_told(chance, program, 0.5)
            copy = Told(program, {name: one.closure(name) for name in program.functions[1:]},
                {(name, point): one.frame(name, point) for name in program.functions for point in points(program,
                    name)})
            self.assertEqual(growth(one, one), 0)
            self.assertEqual(growth(copy, one), 0)
            self.assertEqual(growth(one, told), growth(copy, told))
            self.assertEqual(growth(told, one), growth(told, copy))


class LimitTest(unittest.TestCase):
    def check_full(self, program, one, other, many):
        """That there are so many stands: with them as the limit there are not too many, with one less there are."""
        self.assertEqual(len(Counted(one, other).calls), many)
        with mock.patch("heldby.stands.STANDS", many):
            self.assertEqual(growth(one, other), Counted(one, other).growth())
            self.assertTrue(is_grown(one, other, grown(one, other)))
        with mock.patch("heldby.stands.STANDS", many - 1):
            for what in (growth, grown):
                with self.assertRaises(TooMany) as caught:
                    what(one, other)
                self.assertEqual(vars(caught.exception), {"limit": many - 1})

    def test_each_stand_counts(self):
        for program, one, other in turners.turners(150):
            self.check_full(program, one, other, len(Counted(one, other).calls))

    def test_the_limit_itself(self):
        self.assertEqual(STANDS, 3000)
        full, overfull = turners.crowd(*turners.FULL), turners.crowd(*turners.OVERFULL)
        began = time.perf_counter()
        none = Told(full, {}, {})
        self.assertEqual(growth(none, none), 0)
        value = grown(none, none)
        self.assertEqual(len(value[4][2]), STANDS)
        self.assertTrue(is_grown(none, none, value))
        # What frames keep at calls makes more of them.
        for keeper in (Plain(full), Plain(overfull), Told(overfull, {}, {})):
            for what in (growth, grown):
                with self.assertRaises(TooMany) as caught:
                    what(keeper, keeper)
                self.assertEqual(vars(caught.exception), {"limit": STANDS})
        self.assertLess(time.perf_counter() - began, 30)

    def test_bools_as_they_come(self):
        # Without differences there are 877 stands of f; what its frames keep makes several of each one.
        program = turners.crowd((7,))
        none = Told(program, {}, {})
        kept = frames(program, fa={(0, 0, 2): ["faa"]})
        self.assertEqual(len(grown(none, none)[4][2]), 878)
        for pair in ((kept, none), (none, kept)):
            with self.assertRaises(TooMany):
                growth(*pair)
        program = turners.crowd((4,))
        kept = frames(program, fa={(0, 0, 1): ["faa"]})
        none = Told(program, {}, {})
        self.assertEqual(len(grown(none, none)[4][2]), 16)
        self.assertEqual(len(grown(none, kept)[4][2]), 92)
        self.assertEqual(len(Counted(none, kept).calls), 92)

    def test_millions(self):
        names = [f"x{letter}" for letter in "abcdefghijkl"]
        calls = [Call("f", names[1:] + names[:1]), Call("f", [names[1], names[0], *names[2:]]),
                 Call("f", [names[0], *names[:11]])]
        f = Function("f", names, body=[Either(calls, []), Show("xa"), Show("xb")])
        program = Program(Function("main", functions=[f], body=[Give("f")]))
        began = time.perf_counter()
        for one, other in ((Plain(program), Told(program, {}, {})), (Layout.flat(program), Plain(program))):
            for what in (growth, grown):
                with self.assertRaises(TooMany):
                    what(one, other)
        # Whether it keeps no more is known all the same.
        self.assertTrue(keeps_no_more(Told(program, {}, {}), Plain(program)))
        self.assertIs(is_grown(Plain(program), Plain(program), ("most", 0, [], 0, ())), False)
        self.assertLess(time.perf_counter() - began, 10)


class ConventionsTest(unittest.TestCase):
    def test_other_programs(self):
        one, other = Plain(turners.turning()), Plain(turners.staying())
        for what in (growth, grown):
            with self.assertRaises(OtherProgram) as caught:
                what(one, other)
            self.assertEqual(vars(caught.exception), {})
        for value in (None, grown(one, one), 7):
            with self.assertRaises(OtherProgram):
                is_grown(one, other, value)
        millions = Plain(turners.crowd(*turners.OVERFULL))
        with self.assertRaises(OtherProgram):
            growth(millions, one)

    def test_equal_programs_and_names_of_arguments(self):
        one, other = Plain(turners.turning()), Told(turners.turning(), {}, {("f", (0, 0, 0)): ["x"]})
        self.assertIsNone(growth(one=other, other=one))
        value = grown(one=other, other=one)
        self.assertIs(is_grown(one=other, other=one, value=value), True)
        self.assertEqual(value, grown(other, Plain(turners.turning())))


if __name__ == "__main__":
    unittest.main()
