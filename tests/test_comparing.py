import random
import unittest
from unittest import mock

from heldby.comparing import compared, excesses, is_compared, keeps_no_more
from heldby.errors import OtherProgram, TooLong
from heldby.keepers import Plain, Told, points
from heldby.layouts import Layout
from heldby.limits import MOMENTS
from heldby.programs import Program
from heldby.statements import Add, Call, Either, Function, Give, Show
from heldby.worlds import count_moments, kept_at
from tests import plain_tables
from tests.makers import changed, made_keeper, made_layout, made_told, made_world, programs
from tests.plain_turns import Turns
from tests.plain_worlds import Played
from tests.samples import any_values


def pair():
    functions = [Function("f", body=[Show("a")]), Function("g", body=[Show("b")])]
    return Program(Function("main", things=["a", "b"], functions=functions, body=[Give("f"), Give("g")]))


def nest():
    """main calls f with a and with its own b; f gives g, which shows x, and calls h, which shows nothing."""
    g = Function("g", ["v"], body=[Show("x")])
    h = Function("h", ["y"], things=["z"], body=[Either([], [Show("y")])])
    f = Function("f", ["x"], functions=[g, h], body=[Give("g"), Call("h", ["x"]), Call("h", ["a"])])
    k = Function("k", ["p"], body=[Show("p")])
    return Program(Function("main", ["a"], things=["b"], functions=[f, k], body=[Call("f", ["a"]), Call("f", ["b"])]))


def everything(program):
    """The keeper that keeps all that may be kept."""
    closures = {name: program.chain_things(program.parent(name)) for name in program.functions[1:]}
    frames = {(name, point): program.chain_things(name) for name in program.functions
        for point in points(program, name)}
    return Told(program, closures, frames)


def without(keeper, place, thing):
    """The keeper without a thing at a place: a name for closures, a tuple (name, point) for frames."""
    program = keeper.program
    closures = {name: list(keeper.closure(name)) for name in program.functions[1:]}
    frames = {(name, point): list(keeper.frame(name, point)) for name in program.functions
        for point in points(program, name)}
    (frames if isinstance(place, tuple) else closures)[place].remove(thing)
    return Told(program, closures, frames)


def is_witness(one, other, value):
    """Whether a world shows, by plain means, that one keeps something that other does not."""
    word, world, moment, thing = value
    played = Played(one.program, world)
    if word != "world" or (moment is not None and not 0 <= moment < len(played.seen) - 1):
        return False
    at = -1 if moment is None else moment
    return thing in played.kept_at(one, at) and thing not in played.kept_at(other, at)


class ExampleTest(unittest.TestCase):
    def test_examples(self):
        both, plain = Layout(pair(), bundles=[["a", "b"]]), Plain(pair())
        world = [(0, (), (), (0,), ()), (1, (), (), (), (1,))]
        self.assertEqual([keeps_no_more(both, plain), keeps_no_more(plain, both), compared(both, plain)[0]],
            [False, True, "world"])
        self.assertIs(is_compared(both, plain, ("world", world[:1], None, -2)), True)
        self.assertEqual([keeps_no_more(one=both, other=plain), excesses(one=plain, other=both)], [False, []])
        self.assertIs(is_compared(one=plain, other=both, value=compared(one=plain, other=both)), True)


class KeepsNoMoreTest(unittest.TestCase):
    def told(self, one, other, want):
        """Looks at all four answers; want tells whether one keeps no more than other."""
        self.assertIs(keeps_no_more(one, other), want)
        value = compared(one, other)
        self.assertIs(is_compared(one, other, value), True)
        self.assertEqual(excesses(one, other) == [], want)
        if want:
            self.assertEqual((value[0], len(value)), ("table", 4))
            self.assertEqual(plain_tables.faults(one, other, value[1:]), set())
        else:
            self.assertTrue(is_witness(one, other, value))
        return value

    def test_equal_keepers(self):
        for program in (pair(), nest()):
            for keeper in (Plain(program), Layout.chained(program), Told(program, {}, {}), everything(program)):
                self.told(keeper, keeper, True)
                self.told(keeper | keeper, Plain(program) | keeper, keeper == everything(program) or None or
                          keeps_no_more(keeper, Plain(program) | keeper))
                self.told(Told(program, {}, {}), keeper, True)
                self.told(keeper, everything(program), True)

    def test_one_frame(self):
        program = nest()
        whole = everything(program)
        for name in program.used:
            for point in points(program, name):
                for thing in program.chain_things(name):
                    # Below f and h, main keeps a and b all the same, of which one is x and y; z is h's own. When the
                    # world calls g, nothing stands below; but x is a or b there, too.
                    apart = {"main": "ab", "f": "", "g": "abv", "h": "z"}[name]
                    self.told(whole, without(whole, (name, point), thing), thing not in apart)

    def test_one_closure(self):
        program = nest()
        whole = everything(program)
        for thing in ("a", "b"):
            less = without(whole, "g", thing)
            value = self.told(whole, less, False)
            self.assertIsNone(value[2])
            self.assertEqual([row for row in excesses(whole, less) if row[1] is None], [("g", None, thing)])
            self.told(less, whole, True)
        # The thing of x is that of a or b; closures of f and h are never held.
        for name, thing in (("g", "x"), ("f", "a"), ("f", "b"), ("h", "x"), ("h", "a")):
            self.told(whole, without(whole, name, thing), True)

    def test_functions_that_no_world_reaches(self):
        program = nest()
        plain = Plain(program)
        more = Told(program, {"k": ["a", "b"]}, {("k", point): ["a", "b", "p"] for point in points(program, "k")})
        self.told(plain | more, plain, True)
        self.told(more, Told(program, {}, {}), True)
        self.assertNotEqual(plain | more, plain)

    def test_things_in_different_variables(self):
        # The thing is x and y as long as both stand for it; b of main is x in its call alone.
        g = Function("g", ["y"], body=[Show("y")])
        f = Function("f", ["x"], functions=[g], body=[Call("g", ["x"])])
        program = Program(Function("main", things=["b"], functions=[f], body=[Call("f", ["b"])]))
        by_y = Told(program, {}, {("g", ()): ["y"]})
        for kept, want in ((["x"], True), (["b"], True), (["y"], True), ([], False)):
            self.told(by_y, Told(program, {}, {("g", ()): kept}), want)
        self.told(by_y, Told(program, {}, {("f", (0,)): ["x"]}), True)
        self.told(by_y, Told(program, {}, {("f", (0,)): ["b"]}), True)
        self.told(by_y, Told(program, {}, {("main", (0,)): ["b"]}), True)
        self.told(by_y, Told(program, {}, {("f", ()): ["x"], ("main", ()): ["b"]}), False)

    def test_a_frame_farther_down(self):
        program = nest()
        # Only the frame of f keeps a, behind its last call, and only while h runs and behind it.
        one = Told(program, {}, {("f", (2,)): ["a"]})
        value = self.told(one, Told(program, {}, {}), False)
        self.assertEqual(excesses(one, Told(program, {}, {})), [("f", (2,), "a")])
        self.assertEqual(value[0], "world")
        # h keeps it by y there, but not at its end.
        self.told(one, Told(program, {}, {("h", point): ["y"] for point in points(program, "h")}), False)
        self.told(one, Told(program, {}, {("main", (0,)): ["a"]}), False)
        self.told(one, Told(program, {}, {("main", (0,)): ["a"], ("main", (1,)): ["a"]}), True)

    def test_a_closure_that_is_called_is_held_no_more(self):
        program = nest()
        one, none = Told(program, {}, {("g", ()): ["x"]}), Told(program, {}, {})
        self.told(one, none, False)
        self.told(one, Told(program, {"g": ["x"]}, {}), False)
        self.told(one, Told(program, {"g": ["x"]}, {("g", ()): ["x"]}), True)
        self.told(Told(program, {"g": ["x"]}, {}), Told(program, {"g": ["x"]}, {}), True)
        self.told(Told(program, {"g": ["x"]}, {}), one, False)

    def test_the_world_passes_things(self):
        f = Function("f", ["x", "w"], body=[Show("x")])
        g = Function("g", ["y"], body=[])
        program = Program(Function("main", ["a"], functions=[f, g], body=[Give("f"), Call("g", ["a"])]))
        none = Told(program, {}, {})
        self.told(Told(program, {}, {("f", (0,)): ["w"]}), none, False)
        self.told(Told(program, {}, {("f", (0,)): ["w"]}), Told(program, {}, {("f", (0,)): ["x"]}), False)
        self.told(Told(program, {}, {("g", ()): ["y"]}), Told(program, {}, {("g", ()): ["a"]}), True)
        self.told(Told(program, {}, {("main", ()): ["a"]}), none, False)

    def test_own_things_of_functions_that_are_called_from_afar(self):
        h = Function("h", things=["t"], body=[])
        g = Function("g", functions=[h], body=[Either([Call("h", [])], [])])
        f = Function("f", functions=[g], body=[Either([], [Give("g")])])
        program = Program(Function("main", functions=[f], body=[Either([], [Either([Give("f")], [])])]))
        value = self.told(Told(program, {}, {("h", ()): ["t"]}), Told(program, {}, {}), False)
        self.assertEqual(len(value[1]), 3)
        value = self.told(Told(program, {}, {("h", ()): ["t"]}), Told(program, {}, {("h", ()): ["t"]}), True)
        self.assertEqual(value[1:], ((), (("h", ("t",)),), (("h", ("t",)),)))

    def test_many_programs(self):
        seen = {True: 0, False: 0}
        for at, program in enumerate(programs(90)):
            chance = random.Random(at)
            one = made_keeper(chance, program)
            for first, second in ((one, made_keeper(chance, program)), (one, changed(chance, one)),
                (changed(chance, one), one)):
                want = not plain_tables.faults(first, second, plain_tables.least(first, second))
                self.told(first, second, want)
                seen[want] += 1
        self.assertGreater(min(seen.values()), 60)

    def test_layouts_keep_no_less_than_plain(self):
        unlike = 0
        for at, program in enumerate(programs(80, 2)):
            layout = made_layout(random.Random(at), program)
            self.told(Plain(program), layout, True)
            self.told(Layout.flat(program), Plain(program), True)
            unlike += not keeps_no_more(layout, Plain(program))
        self.assertGreater(unlike, 15)

    def test_equal_programs_that_are_two_objects(self):
        self.told(Plain(nest()), Layout(nest()), True)
        self.told(everything(nest()), Plain(nest()), False)

    def test_other_programs(self):
        one, other = Plain(pair()), Plain(nest())
        calls = [keeps_no_more, compared, excesses, lambda one, other: is_compared(one, other, None)]
        for call in calls:
            for first, second in ((one, other), (other, one), (Layout(pair()), Told(nest(), {}, {}))):
                with self.assertRaises(OtherProgram) as caught:
                    call(first, second)
                self.assertEqual(vars(caught.exception), {})


class TableTest(unittest.TestCase):
    """Each rule of tables, and what no table is."""

    def setUp(self):
        self.program = nest()
        self.one, self.other = Plain(self.program), Plain(self.program) | Told(self.program, {},
            {("main", ()): ["a", "b"]})
        self.table = compared(self.one, self.other)

    def is_one(self, held, entered, standing):
        return is_compared(self.one, self.other, ("table", tuple(held), tuple(entered), tuple(standing)))

    def test_the_least_table(self):
        a, b, x, y = ("main", ("a",)), ("main", ("b",)), ("g", ("x",)), ("h", ("y",))
        held = [("g", ("a",)), ("g", ("a", "x")), ("g", ("b",)), ("g", ("b", "x"))]
        _, got_held, entered, standing = self.table
        # The thing of a is a and x in the first call of f, and a alone in the second one; b is x in that one.
        self.assertEqual(got_held, (("g", ("a",)), ("g", ("a", "x")), ("g", ("b",)), ("g", ("b", "x"))))
        self.assertEqual(list(got_held), held)
        for state in (a, b, ("g", ("v",)), ("h", ("z",)), ("f", ("a", "x")), ("h", ("a", "x", "y")), ("h", ("a", "y")),
            *held):
            self.assertIn(state, entered)
        for state in (x, y, ("f", ("x",)), ("k", ("p",)), ("h", ("b", "y"))):
            self.assertNotIn(state, entered)
        for state in (a, b, ("g", ("v",)), ("h", ("z",)), *held):
            self.assertIn(state, standing)

    def test_kept(self):
        self.assertTrue(self.is_one(*self.table[1:]))
        # Larger sets are a table, too, if they are closed.
        _, held, entered, standing = self.table
        every = tuple(sorted({*entered, ("f", ("x",)), ("g", ("x",)), ("h", ("x", "y")), ("h", ("x",)), ("h", ("y",))}))
        more = tuple(sorted({*held, ("g", ("x",))}))
        self.assertTrue(self.is_one(more, every, every))
        self.assertEqual(plain_tables.faults(self.one, self.other, (more, every, every)), set())

    def test_each_state_of_a_least_table_is_needed(self):
        rules = set()
        for part in (1, 2, 3):
            for state in self.table[part]:
                parts = list(self.table[1:])
                parts[part - 1] = [other for other in parts[part - 1] if other != state]
                broken = plain_tables.faults(self.one, self.other, parts)
                self.assertTrue(broken)
                rules |= {min(broken)} if len(broken) == 1 else set()
                self.assertFalse(self.is_one(*parts), (part, state))
        self.assertLessEqual({1, 2}, rules)

    def test_each_rule_by_itself(self):
        """Tables that break one rule only, for each of the rules 1 to 6."""
        found = {rule: 0 for rule in range(1, 7)}
        for at, program in enumerate(programs(50, 2)):
            chance = random.Random(at)
            plain = Plain(program)
            closures = {name: program.chain_things(program.parent(name)) for name in program.functions[1:]}
            one, other = chance.choice([
                (plain, plain), (plain, made_layout(chance, program)), (plain, changed(chance, plain)),
                (plain | Told(program, closures, {}), plain),
            ])
            table = plain_tables.least(one, other)
            spoiled = [table]
            for part in range(3):
                for state in table[part]:
                    spoiled.append(tuple(tuple(s for s in states if s != state or k != part) for k,
                        states in enumerate(table)))
            for parts in spoiled:
                broken = plain_tables.faults(one, other, parts)
                self.assertIs(is_compared(one, other, ("table", *parts)), not broken)
                if len(broken) == 1:
                    found[min(broken)] += 1
        self.assertGreater(min(found.values()), 2, found)

    def test_rule_1(self):
        # Without the states of a parameter that the world passes, and with those of what follows from them alone.
        _, held, entered, standing = self.table
        self.assertFalse(self.is_one(held, [s for s in entered if s != ("g", ("v",))], standing))
        self.assertFalse(self.is_one(held, entered, [s for s in standing if s != ("g", ("v",))]))
        self.assertFalse(self.is_one(held, entered, [s for s in standing if s != ("h", ("z",))]))
        self.assertFalse(self.is_one((), (), ()))
        empty = Program(Function("main"))
        self.assertIs(is_compared(Plain(empty), Plain(empty), ("table", (), (), ())), True)

    def test_rule_4(self):
        # With the calls of main uncovered, standing has what they lead to.
        f = Function("f", ["x"], body=[])
        program = Program(Function("main", ["a"], functions=[f], body=[Call("f", ["a"])]))
        none = Told(program, {}, {})
        a, ax = ("main", ("a",)), ("f", ("a", "x"))
        self.assertFalse(is_compared(none, none, ("table", (), (ax, a), (a,))))
        self.assertTrue(is_compared(none, none, ("table", (), (ax, a), (ax, a))))
        # The frame keeps it at the point behind the call; at the one ahead it does not help.
        covered = Told(program, {}, {("main", (0,)): ["a"]})
        self.assertTrue(is_compared(none, covered, ("table", (), (ax, a), (a,))))
        self.assertFalse(is_compared(none, Told(program, {}, {("main", ()): ["a"]}), ("table", (), (ax, a), (a,))))

    def test_rules_5_and_6(self):
        program = pair()
        table = compared(Plain(program), Plain(program))
        none = Told(program, {}, {})
        for closures, frames, want in (
            ({"f": ["a"]}, {}, False), ({"f": ["b"]}, {}, False), ({}, {("f", ()): ["a"]}, False),
            ({}, {("main", (1,)): ["b"]}, False), ({}, {}, True),
        ):
            self.assertIs(is_compared(Told(program, closures, frames), none, table), want)
            told = Told(program, closures, frames)
            self.assertTrue(is_compared(told, told, table))

    def test_no_tables(self):
        word, held, entered, standing = self.table
        f = ("f", ("a", "x"))
        wrong = [
            self.table[1:], (*self.table, ()), ("Table", held, entered, standing), ("tables", held, entered, standing),
            list(self.table), (word, list(held), entered, standing), (word, held, list(entered), standing),
            (word, held, entered, list(standing)), (word, held[::-1], entered, standing),
                (word, held, entered[::-1], standing),
            (word, held, entered, standing[::-1]), (word, held, entered + entered[-1:], standing),
            (word, held[:1] + held, entered, standing), (word, held, entered, (*standing, standing[-1])),
            ("world", held, entered, standing), (word, held, entered), (word,), (word, (held, entered, standing)),
            (None, held, entered, standing), ([word], held, entered, standing),
        ]
        for value in any_values() + [("f",), ("f", ()), ("f", ("x", "a")), ("f", ("a", "a")), ("f", ["a", "x"]),
            ["f", ("a", "x")],
                                     ("f", ("a", "x"), ()), ("f", "a"), ("f", "ax"), ("f", ("y",)), ("f", ("a", None)),
                                         ("f", (1,)),
                                     ("k", ("p",)), ("k", ("a",)), ("nobody", ("a",)), (["f"], ("a",)), (None, ("a",)),
                                         ("f", (("a",),)),
                                     ("f", ("a", ["x"]))]:
            for part in (1, 2, 3):
                for at in (0, len(self.table[part])):
                    states = list(self.table[part])
                    states.insert(at, value)
                    wrong.append((*self.table[:part], tuple(states), *self.table[part + 1:]))
                wrong.append((*self.table[:part], value, *self.table[part + 1:]))
                wrong.append((*self.table[:part], (value,), *self.table[part + 1:]))
        # At the place where they stand in order, too, with all sets closed.
        for state in (("f", ()), ("f", ("x", "a")), ("f", ("a", "a", "x")), ("f", ("y",)), ("h", ("p",)),
            ("h", ("a", "v")),
                      ("k", ("p",)), ("k", ("a",)), ("nobody", ("a",)), ("main", ("n",)), ("main", ("x",)),
                          ("f", ("f",))):
            wrong.append((word, held, tuple(sorted({*entered, state})), standing))
            wrong.append((word, held, entered, tuple(sorted({*standing, state}))))
            if state[0] != "main":
                wrong.append((word, *[tuple(sorted({*states, state})) for states in (held, entered, standing)]))
        # States of closures have no variables of their own function.
        for state in (("g", ("a", "v")), ("g", ("v",))):
            wrong.append((word, tuple(sorted({*held, state})), tuple(sorted({*entered, state})),
                tuple(sorted({*standing, state}))))
        self.assertIn(f, entered)
        self.assertTrue(is_compared(self.one, self.other, self.table))
        for value in wrong:
            if value == ():
                continue
            self.assertIs(is_compared(self.one, self.other, value), False, value)

    def test_a_table_of_other_keepers(self):
        program = nest()
        whole, plain = everything(program), Plain(program)
        self.assertFalse(is_compared(whole, plain, compared(plain, plain)))
        self.assertFalse(is_compared(plain, whole, compared(Plain(pair()), Plain(pair()))))


class WorldTest(unittest.TestCase):
    def setUp(self):
        self.program = nest()
        self.one, self.other = everything(self.program), Plain(self.program)
        self.world = [(0, (5,), (0, 0, 1, 1), (0,), ()), (1, (7,), (), (), (1,))]

    def test_every_moment_and_thing(self):
        right = 0
        for world in (self.world[:1], self.world):
            many = count_moments(self.program, world)
            for moment in [*range(many), None]:
                by_one, by_other = kept_at(self.one, world, moment), kept_at(self.other, world, moment)
                for thing in range(-4, 9):
                    want = thing in by_one and thing not in by_other
                    self.assertIs(is_compared(self.one, self.other, ("world", world, moment, thing)), want)
                    self.assertFalse(is_compared(self.other, self.one, ("world", world, moment, thing)))
                    right += want
        self.assertGreater(right, 5)

    def test_spoiled(self):
        one, other = everything(self.program), Told(self.program, {}, {})
        fine = ("world", [(0, (1,), (0, 0, 0, 0), (), ())], 0, 1)
        self.assertIs(is_compared(one, other, fine), True)
        self.assertIs(is_compared(one, other, ("world", tuple(fine[1]), 0, 1)), True)
        many = count_moments(self.program, fine[1])
        for moment in range(many):
            self.assertIs(is_compared(one, other, ("world", fine[1], moment, 1)), True)
        turn = fine[1][0]
        worlds = [[], (), [turn, None], [list(turn)], [turn[:4]], [(1, *turn[1:])], [(False, *turn[1:])],
            [(0, (True,), *turn[2:])],
                  [(*turn[:2], (0, 0, 0), (), ())], [(*turn[:3], (2,), ())], [(*turn[:4], (1,))], turn, fine[1][0][1],
                      {0: turn}]
        for world in worlds + any_values():
            self.assertIs(is_compared(one, other, ("world", world, 0, 1)), False)
        for moment in any_values() + [many, -1, True, False, "0", (0,)]:
            if moment is None or (type(moment) is int and 0 <= moment < many):
                continue
            self.assertIs(is_compared(one, other, ("world", fine[1], moment, 1)), False)
        for thing in any_values() + [True, False, "1", (1,), [1], 2, -9]:
            if not (type(thing) is int and thing in (1, -1)):
                self.assertIs(is_compared(one, other, ("world", fine[1], 0, thing)), False)
        for value in (fine[1:], (*fine, 0), list(fine), ("table", *fine[1:]), (None, *fine[1:]),
            (["world"], *fine[1:])):
            self.assertIs(is_compared(one, other, value), False)
        # At the moment None nothing stands, and only the closure of main is held.
        self.assertIs(is_compared(one, other, ("world", fine[1], None, 1)), False)

    def test_bools_are_no_things(self):
        one, other = everything(self.program), Told(self.program, {}, {})
        self.assertIs(is_compared(one, other, ("world", [(0, (1,), (0, 0, 0, 0), (), ())], 0, True)), False)
        self.assertIs(is_compared(one, other, ("world", [(0, (0,), (0, 0, 0, 0), (), ())], 0, False)), False)

    def test_too_long_worlds(self):
        f = Function("f", ["x"], body=[Either([], [Call("f", ["x"])])])
        program = Program(Function("main", ["a"], functions=[f], body=[Call("f", ["a"])]))
        for many, want in ((1000, True), (60000, False)):
            world = [(0, (1,), (1,) * many + (0,), (), ())]
            self.assertIs(is_compared(everything(program), Told(program, {}, {}), ("world", world, 0, 1)), want)

    def test_any_values(self):
        for program in (pair(), nest()):
            for one, other in ((Plain(program), Plain(program)), (everything(program), Plain(program))):
                for value in any_values() + [compared, "table", "world", ("table",), ("world",), (one, other),
                    ("table", one, other, one)]:
                    self.assertIs(is_compared(one, other, value), False)


class LongTurnsTest(unittest.TestCase):
    def shifted(self, many, gives):
        """f shifts its things by one in each call of itself; each one needs many moments, by other calls."""
        things = ["xa", "xb", "xc", "xd", "xe", "xf", "xg", "xh"]
        shift = Call("f", [things[-1], *things[:-1]])
        slow = Function("slow", body=[Add("n", 1)] * 18)
        again = Function("again", body=[shift])
        body = [Either([Call("slow", [])] * many + [shift], [])]
        f = Function("f", things, functions=[again] if gives else [], body=[Give("again"), *body] if gives else body)
        return Program(Function("main", ["a"], things=["b"], numbers=["n"], functions=[slow, f],
            body=[Call("f", ["a", *["b"] * 7])]))

    def shown(self, one, other):
        value = compared(one, other)
        self.assertEqual(value[0], "world")
        self.assertTrue(is_compared(one, other, value))
        self.assertFalse(keeps_no_more(one, other))
        return value

    def keepers(self, program, thing):
        """Keepers that tell each other apart only when the thing of a is in this variable alone."""
        others = [name for name in program.chain_things("f") if name.startswith("x") and name != thing]
        return Told(program, {}, {("f", ()): [thing]}), Told(program, {}, {("f", ()): ["b", *others]})

    def test_by_calls(self):
        for at, thing in enumerate(["xa", "xb", "xe", "xh"]):
            program = self.shifted(2, False)
            value = self.shown(*self.keepers(program, thing))
            self.assertEqual(len(value[1]), 1)
            self.assertEqual(sum(value[1][0][2]), len([c for c in value[1][0][2] if c]))
            self.assertEqual(value[1][0][2].count(0), (0, 1, 4, 7)[at])

    def test_by_closures(self):
        # In turns of their own, closures do the same by fewer moments of each turn.
        program = self.shifted(14, True)
        value = self.shown(*self.keepers(program, "xh"))
        self.assertLessEqual(max(self.counts(program, value[1])), MOMENTS)

    def circles(self, gives):
        """f turns its things in circles of two, three and five: thirty calls of itself come back to the beginning."""
        slower = Function("slower", body=[Add("n", 1)] * 10)
        slow = Function("slow", body=[Call("slower", [])] * 8)
        names = [f"x{letter}" for letter in "abcdefghij"]
        order = [1, 0, 3, 4, 2, 6, 7, 8, 9, 5]
        turn = Call("f", [names[at] for at in order])
        inner = [Function("again", body=[turn])] if gives else []
        body = [Give("again")] if gives else []
        f = Function("f", names, functions=inner, body=[*body,
            Either([Call("slow", [])] * (34 if gives else 36) + [turn], [])])
        passed = ["a" if at in (0, 2, 5) else "b" for at in range(10)]
        program = Program(Function("main", ["a", "b"], numbers=["n"], functions=[slower, slow, f],
            body=[Call("f", passed)]))
        return program, names, order, {names[0], names[2], names[5]}

    def test_a_way_that_is_too_long_in_one_turn(self):
        program, names, order, where = self.circles(True)
        for rounds in range(29):
            thing = min(where)
            if rounds in (0, 14, 28):
                one = Told(program, {}, {("f", ()): [thing]})
                other = Told(program, {}, {("f", ()): [name for name in names if name not in where]})
                # By calls alone, the last one takes more moments than a turn may have; closures begin new turns.
                value = self.shown(one, other)
                self.assertLessEqual(max(self.counts(program, value[1])), MOMENTS)
            where = {names[at] for at in range(10) if names[order[at]] in where}

    def counts(self, program, world):
        return [count_moments(program, world[:at + 1]) for at in range(len(world))]

    def test_a_table_needs_no_turns(self):
        # Two things in thirty states of f each, and in one state of each other function.
        program = self.circles(False)[0]
        whole = everything(program)
        self.assertTrue(keeps_no_more(Plain(program), whole))
        self.assertTrue(is_compared(Plain(program), whole, compared(Plain(program), whole)))
        self.assertEqual(len(compared(Told(program, {}, {}), Told(program, {}, {}))[3]), 60 + 2 * 3)


class ShortestTurnsTest(unittest.TestCase):
    """With a lower limit of moments: worlds are found as long as there are any whose turns are not longer."""

    def found(self, one, other, limit):
        with mock.patch("heldby.searching.MOMENTS", limit), mock.patch("heldby.plays.MOMENTS", limit):
            try:
                return compared(one, other)
            except TooLong:
                return None

    def test_many_programs(self):
        found = {}
        small = [program for program in programs(700, 2) if sum(len(points(program, f)) for f in program.used) < 26]
        for at, program in enumerate(small):
            chance = random.Random(at)
            one, other = made_keeper(chance, program), made_keeper(chance, program)
            if keeps_no_more(one, other):
                self.assertIsNone(Turns(one, other).least(6))
                continue
            least = Turns(one, other).least(20)
            found[least] = found.get(least, 0) + 1
            self.assertIsNone(self.found(one, other, 20 if least is None else least - 1))
            if least is not None:
                value = self.found(one, other, least)
                self.assertTrue(is_witness(one, other, value))
                turns = [count_moments(program, value[1][:index + 1]) for index in range(len(value[1]))]
                self.assertLessEqual(max(turns), least)
        self.assertGreater(len(found), 10)

    def test_gives_of_turns_that_are_just_long_enough(self):
        g = Function("g", body=[Show("x"), Show("x")])
        f = Function("f", ["x"], functions=[g], body=[Show("x"), Give("g"), Show("x"), Show("x")])
        program = Program(Function("main", ["a"], functions=[f], body=[Show("a"), Call("f", ["a"]), Show("a")]))
        one, other = Told(program, {}, {("g", ()): ["x"]}), Told(program, {}, {})
        self.assertEqual(Turns(one, other).least(20), 9)
        self.assertIsNone(self.found(one, other, 8))
        self.assertEqual(len(self.found(one, other, 9)[1]), 2)


class ExcessesTest(unittest.TestCase):
    def test_all_and_their_order(self):
        program = nest()
        found = excesses(everything(program), Told(program, {}, {}))
        want = []
        for name in program.used:
            if name == "g":
                want += [("g", None, thing) for thing in ("a", "b", "x")]
            for point in points(program, name):
                want += [(name, point, thing) for thing in sorted(program.chain_things(name))]
        self.assertEqual(found, want)
        self.assertIsInstance(found, list)

    def test_pair(self):
        both = Layout(pair(), bundles=[["a", "b"]])
        self.assertEqual(excesses(both, Plain(pair())), [
            ("main", (0,), "a"), ("f", None, "b"), ("f", (), "b"), ("g", None, "a"), ("g", (), "a"),
        ])
        self.assertEqual(excesses(Plain(pair()), both), [])

    def test_none_where_something_else_keeps_the_thing(self):
        program = nest()
        none, plain = Told(program, {}, {}), Plain(program)
        # While f runs, main keeps a for its second call behind the first one only by other points.
        one = Told(program, {}, {("f", point): ["a", "b"] for point in points(program, "f")})
        main = Told(program, {}, {("main", (0,)): ["a"]})
        found = excesses(one, main)
        self.assertEqual(found, [("f", point, thing) for point in points(program, "f") for thing in "ab"])
        covered = Told(program, {}, {("main", (0,)): ["a", "b"], ("main", (1,)): ["b"]})
        self.assertEqual(excesses(one, covered), [("f", point, "a") for point in points(program, "f")])
        self.assertEqual(excesses(one, covered | Told(program, {}, {("main", (1,)): ["a"]})), [])
        self.assertEqual(excesses(none, plain), [])

    def test_no_world_reaches(self):
        program = nest()
        one = Told(program, {"k": ["a"], "f": ["a"], "h": ["x"]}, {("k", ()): ["p", "a"], ("g", (0,)): ["v"]})
        self.assertEqual(excesses(one, Told(program, {}, {})), [("g", (0,), "v")])

    def test_on_worlds(self):
        """What worlds show is among the excesses, and each excess is shown by a world of its own."""
        shown, proved = 0, 0
        for at, program in enumerate(programs(60)):
            chance = random.Random(at)
            one, other = made_keeper(chance, program), made_keeper(chance, program)
            found = excesses(one, other)
            self.assertEqual(found, self.ordered(program, found))
            for _ in range(3):
                world = made_world(chance, program, 3, 60)
                if world:
                    for scene in self.scenes(Played(program, world)):
                        seen = self.seen(one, other, scene)
                        self.assertLessEqual(seen, set(found))
                        shown += len(seen)
            for name, point, thing in chance.sample(found, min(6, len(found))):
                alone = Told(program, {name: [thing]}, {}) if point is None else Told(program, {},
                    {(name, point): [thing]})
                self.assertTrue(is_witness(alone, other, compared(alone, other)))
                proved += 1
        self.assertGreater(shown, 300)
        self.assertGreater(proved, 80)

    def test_small_programs_over_all_worlds(self):
        """All worlds of two turns of some programs, with each choice, take and drop."""
        for program in (pair(), nest()):
            scenes = {scene for world in all_worlds(program) for scene in self.scenes(Played(program, world))}
            for at in range(6):
                chance = random.Random(at)
                one = everything(program) if at == 0 else made_told(chance, program, 0.6)
                other = made_told(chance, program, 0.3)
                seen = set()
                for scene in scenes:
                    seen |= self.seen(one, other, scene)
                self.assertEqual(sorted(seen, key=str), sorted(excesses(one, other), key=str))

    def scenes(self, played):
        """What stands and is held at the moments of the last turn: sets of (name, point, (variable, thing) ..)."""
        found = set()
        for moment in range(len(played.seen)):
            rows = [(name, point, tuple(things.items())) for name, point, things in played.stack_at(moment)]
            rows += [(name, None, tuple(things.items())) for _, name, things in played.held_at(moment)]
            found.add(frozenset(rows))
        return found

    def seen(self, one, other, scene):
        """Where, and by which variables, one keeps what other does not keep there."""
        kept = set()
        for name, point, pairs in scene:
            by_other = other.closure(name) if point is None else other.frame(name, point)
            kept |= {thing for variable, thing in pairs if variable in by_other}
        found = set()
        for name, point, pairs in scene:
            by_one = one.closure(name) if point is None else one.frame(name, point)
            found |= {(name, point, variable) for variable, thing in pairs if variable in by_one and thing not in kept}
        return found

    def ordered(self, program, found):
        def place(row):
            return (program.functions.index(row[0]), (-1,) if row[1] is None else (0, *row[1]), row[2])

        return sorted(set(found), key=place)


def all_worlds(program):
    """Worlds of at most two turns: each takes one closure or none, and drops all, the one that is called, or none."""
    found = []
    for world in [[]] + [[turn] for turn in turns(program, [])]:
        found += [world + [turn] for turn in turns(program, world)]
    return found


def turns(program, world):
    found = []
    held = Played(program, world).held
    for closure, (name, _) in held.items():
        # Things of their own in each turn, so that none is kept as another one.
        things = tuple(10 * len(world) + at for at in range(len(program.function(name).parameters)))
        for choices in [tuple(number >> at & 1 for at in range(4)) for number in range(16)]:
            for drops in ((), (closure,), tuple(held)):
                tried = Played(program, world + [(closure, things, choices, (), drops)])
                # Choices that are left over change nothing, so they are tried once.
                if any(tried.left):
                    continue
                for takes in [(), *[(number,) for number in range(tried.offered)]]:
                    found.append((closure, things, choices, takes, drops))
    return found


if __name__ == "__main__":
    unittest.main()
