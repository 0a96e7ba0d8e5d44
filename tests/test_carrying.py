"""What changes make of keepers, and the facts of changes on many programs."""

import copy
import random
import unittest

from heldby.changes import Grafting, Lifting, Pruning, Renaming, Sinking
from heldby.comparing import compared, is_compared, keeps_no_more
from heldby.errors import DuplicateName, GivenAway, InUse, NotSame, OtherProgram, TooMany, UnknownName
from heldby.growth import growth
from heldby.keepers import Keeper, Plain, Told, points
from heldby.layouts import Layout
from heldby.programs import Program
from heldby.statements import Call, Function, Give, Show
from heldby.worlds import count_moments, held_at, kept_at, shows_of, stack_at
from tests.makers import changed, made_keeper, made_layout, made_told, made_world, programs
from tests.plain_worlds import Played
from tests.test_changes import nest


def tells(keeper):
    """All that a keeper tells, by functions and by functions and points."""
    program = keeper.program
    frames = {(name, point): keeper.frame(name, point) for name in program.functions for point in points(program, name)}
    return {name: keeper.closure(name) for name in program.functions}, frames


def everything(program):
    return Told(program, {name: program.chain_things(program.parent(name)) for name in program.functions[1:]},
        {(name, point): program.chain_things(name) for name in program.functions for point in points(program, name)})


def renamings(chance, program):
    """Renamings of some names, also to names that others had."""
    names = [*program.functions, *[x for f in program.functions for x in program.variables(f)]]
    chosen = [name for name in names if chance.random() < 0.5]
    mixed = list(chosen)
    chance.shuffle(mixed)
    fresh = {name: f"new{letter}" for name, letter in zip(chance.sample(names, min(4, len(names))), "abcd")}
    return [Renaming(program, dict(zip(chosen, mixed))), Renaming(program, fresh)]


def prunings(chance, program):
    found = [Pruning(program)]
    for name in program.functions[1:]:
        try:
            found.append(Pruning(program, name))
        except InUse:
            pass
    return found


def graftings(chance, program):
    found = []
    for _ in range(3):
        parent = chance.choice(program.functions)
        inner = Function("graftb", ["graftc"], body=[Show(thing) for thing in program.chain_things(parent)[:2]])
        graft = Function("grafta", things=["graftd"], functions=[inner],
            body=[Give("graftb"), Call("graftb", ["graftd"])])
        many = len(program.function(parent).functions)
        try:
            found.append(Grafting(program, parent, graft, index=chance.randint(0, many)))
        except TooMany:
            pass
    return found


def liftings(chance, program):
    found = []
    for name in program.functions[1:]:
        for variable in program.needs(name):
            try:
                found.append(Lifting(program, name, variable, "lifted"))
            except (UnknownName, GivenAway, TooMany):
                pass
    return found


def sinkings(chance, program):
    found = []
    for name in program.functions[1:]:
        for parameter in program.function(name).parameters:
            try:
                found.append(Sinking(program, name, parameter))
            except (NotSame, GivenAway):
                pass
    return found


KINDS = (renamings, prunings, graftings, liftings, sinkings)


class CarriedTest(unittest.TestCase):
    def test_renamings(self):
        change = Renaming(nest(), {"f": "e", "e": "f", "a": "x", "x": "a", "w": "ww"})
        told = Told(nest(), {"f": ["a", "b"], "e": ["x", "w"], "u": ["b"]},
            {("f", (0,)): ["a", "x", "w"], ("e", (2, 0)): ["z", "x"], ("main", ()): ["a"], ("v", (1,)): ["a"]})
        want = Told(change.result, {"e": ["x", "b"], "f": ["a", "ww"], "u": ["b"]},
            {("e", (0,)): ["x", "a", "ww"], ("f", (2, 0)): ["z", "a"], ("main", ()): ["x"], ("v", (1,)): ["x"]})
        self.assertEqual(change(told), want)
        self.assertEqual(change(keeper=told), want)
        self.assertEqual(change.inverse()(want), told)
        layout = Layout(nest(), bundles=[["n", "a"], ], linked=["e", "g"], opened=["f"])
        carried = change(layout)
        self.assertIsInstance(carried, Layout)
        self.assertEqual(carried.choice(), ((("x", "n"),), ("g", "f"), ("e",)))
        self.assertEqual(carried, change(layout & layout))

    def test_prunings(self):
        for change in (Pruning(nest()), Pruning(nest(), "u")):
            told = Told(nest(), {"f": ["a", "b"], "u": ["b"], "v": ["a"]}, {("u", ()): ["a"], ("f", (0,)): ["w"]})
            self.assertEqual(change(told), Told(change.result, {"f": ["a", "b"]}, {("f", (0,)): ["w"]}))
            layout = Layout(nest(), bundles=[["n", "a"]], linked=["g"], opened=["f", "e"])
            self.assertEqual(change(layout).choice(), layout.choice())
            self.assertIsInstance(change(layout), Layout)
        only = Pruning(nest(), "v")
        self.assertEqual(only(Told(nest(), {"u": ["b"], "v": ["a"]}, {("u", ()): ["a"]})),
            Told(only.result, {"u": ["b"]}, {("u", ()): ["a"]}))

    def test_graftings(self):
        graft = Function("k", ["kk"], functions=[Function("j", body=[Show("kk")])], body=[Give("j"), Show("a")])
        change = Grafting(nest(), "f", graft, index=1)
        whole = everything(nest())
        closures, frames = tells(change(whole))
        self.assertEqual((closures["k"], closures["j"]), ((), ()))
        self.assertTrue(all(kept == () for (name, _), kept in frames.items() if name in ("k", "j")))
        self.assertEqual({name: closures[name] for name in nest().functions}, tells(whole)[0])
        self.assertEqual({key: frames[key] for key in tells(whole)[1]}, tells(whole)[1])
        layout = Layout(nest(), bundles=[["n", "a"]], linked=["g"], opened=["f", "e"])
        self.assertEqual(change(layout).choice(), layout.choice())

    def lifted(self):
        """g has h in it; k beside g, and f around it."""
        h = Function("h", body=[Show("a"), Show("y"), Give("h")])
        g = Function("g", ["y"], functions=[h], body=[Call("h", []), Show("a")])
        k = Function("k", body=[Call("g", ["a"])])
        f = Function("f", ["x"], functions=[g, k], body=[Call("g", ["x"]), Call("k", [])])
        return Program(Function("main", ["a"], things=["b"], functions=[f], body=[Give("f")]))

    def test_liftings(self):
        program = self.lifted()
        change = Lifting(program, "g", "a", "q")
        carried = change(everything(program))
        self.assertEqual([carried.closure(name) for name in ("f", "g", "h", "k")],
            [("a", "b"), ("b", "x"), ("b", "q", "x", "y"), ("a", "b", "x")])
        self.assertEqual({carried.frame("g", point) for point in points(program, "g")}, {("b", "q", "x", "y")})
        self.assertEqual({carried.frame("h", point) for point in points(program, "h")}, {("b", "q", "x", "y")})
        self.assertEqual({carried.frame("k", point) for point in points(program, "k")}, {("a", "b", "x")})
        self.assertEqual({carried.frame("main", point) for point in points(program, "main")}, {("a", "b")})
        less = Told(program, {"g": ["a"], "h": ["y"]}, {("g", ()): ["a"], ("g", (0,)): ["b"], ("h", (0,)): ["a"]})
        self.assertEqual(change(less), Told(change.result, {"h": ["y"]},
            {("g", ()): ["q"], ("g", (0,)): ["b"], ("h", (0,)): ["q"]}))
        self.assertIs(type(change(Layout.flat(program))), Told)
        self.assertEqual(change(Layout.flat(program)), change(Plain(program)))

    def test_sinkings(self):
        # y of g is x of f; frames and closures that keep x and y keep x.
        h = Function("h", body=[Show("a"), Show("y"), Give("h")])
        g = Function("g", ["y"], functions=[h], body=[Call("h", []), Show("a")])
        f = Function("f", ["x"], functions=[g], body=[Call("g", ["x"]), Show("x")])
        program = Program(Function("main", ["a"], things=["b"], functions=[f], body=[Give("f")]))
        change = Sinking(program, "g", "y")
        carried = change(everything(program))
        self.assertEqual([carried.closure(name) for name in ("f", "g", "h")],
            [("a", "b"), ("a", "b", "x"), ("a", "b", "x")])
        self.assertEqual({carried.frame("h", point) for point in points(program, "h")}, {("a", "b", "x")})
        less = Told(program, {"g": ["x"], "h": ["y"]}, {("g", ()): ["y"], ("h", (0,)): ["a", "y"], ("f", ()): ["b"]})
        self.assertEqual(change(less), Told(change.result, {"g": ["x"], "h": ["x"]},
            {("g", ()): ["x"], ("h", (0,)): ["a", "x"], ("f", ()): ["b"]}))
        self.assertIs(type(change(Layout.chained(program))), Told)

    def test_other_programs(self):
        changes = [Renaming(nest(), {"a": "q"}), Pruning(nest()), Grafting(nest(), "main", Function("k")),
            Lifting(nest(), "e", "a", "q"), Renaming(nest(), {"a": "q"}) + Pruning(Renaming(nest(), {"a": "q"}).result)]
        for change in changes:
            for program in (self.lifted(), change.result, Renaming(nest(), {"main": "top"}).result):
                for keeper in (Plain(program), Layout(program), Told(program, {}, {})):
                    with self.assertRaises(OtherProgram) as caught:
                        change(keeper)
                    self.assertEqual(vars(caught.exception), {})
            self.assertIsInstance(change(Plain(nest())), Keeper)

    def test_classes_of_carried_keepers(self):
        for at, program in enumerate(programs(60)):
            chance = random.Random(at)
            layout = made_layout(chance, program)
            for kind in KINDS:
                for change in kind(chance, program)[:2]:
                    want = Layout if kind in (renamings, prunings, graftings) else Told
                    self.assertIs(type(change(layout)), want)
                    for keeper in (Plain(program), layout | Plain(program), Told(program, {}, {})):
                        self.assertIs(type(change(keeper)), Told)
                    self.assertEqual(change(keeper).program, change.result)
                    self.assertEqual(change(layout), change(layout | layout))

    def test_carried_layouts_of_sums(self):
        renaming = Renaming(nest(), {"a": "aa", "f": "ff"})
        pruning = Pruning(renaming.result)
        grafting = Grafting(pruning.result, "ff", Function("k"))
        lifting = Lifting(grafting.result, "e", "aa", "q")
        layout = Layout(nest(), bundles=[["n", "a"]], linked=["g"], opened=["f", "e"])
        carried = (renaming + pruning + grafting)(layout)
        self.assertIsInstance(carried, Layout)
        self.assertEqual(carried.choice(), ((("aa", "n"),), ("g",), ("ff", "e")))
        whole = renaming + (pruning + (grafting + lifting))
        self.assertIs(type(whole(layout)), Told)
        self.assertEqual(whole(layout), lifting(grafting(pruning(renaming(layout)))))
        for keeper in (Plain(nest()), everything(nest())):
            self.assertEqual(whole(keeper), lifting(grafting(pruning(renaming(keeper)))))
            self.assertIs(type(whole(keeper)), Told)


class FactsTest(unittest.TestCase):
    """The facts of changes, for each kind on many programs."""

    def changes(self, kind, many=100):
        for at, program in enumerate(programs(many)):
            chance = random.Random(at)
            found = kind(chance, program)
            for change in chance.sample(found, min(3, len(found))):
                yield chance, program, change

    def check_worlds(self, kind, least):
        looked = 0
        for chance, program, change in self.changes(kind):
            keepers = [made_keeper(chance, program), made_told(chance, program, 0.5)]
            carried = [change(keeper) for keeper in keepers]
            world = made_world(chance, program, 3, 60)
            for turns in range(1, len(world) + 1):
                self.check_turn(change, world[:turns], keepers, carried)
                looked += 1
        self.assertGreater(looked, least)

    def check_turn(self, change, world, keepers, carried):
        many = count_moments(change.program, world)
        self.assertEqual(count_moments(change.result, world), many)
        first, second = Played(change.program, world), Played(change.result, world)
        self.assertEqual(len(first.seen), len(second.seen))
        shows, others = shows_of(change.program, world), shows_of(change.result, world)
        self.assertEqual([[value for _, value in rows] for rows in shows],
            [[value for _, value in rows] for rows in others])
        self.assertEqual([row[0] for row in held_at(change.program, world, None)],
            [row[0] for row in held_at(change.result, world, None)])
        for moment in [*range(many), None]:
            stacks = [stack_at(program, world, moment) for program in (change.program, change.result)]
            self.assertEqual([row[1] for row in stacks[0]], [row[1] for row in stacks[1]])
            at = -1 if moment is None else moment
            for keeper, other in zip(keepers, carried):
                kept = kept_at(keeper, world, moment)
                self.assertEqual(kept_at(other, world, moment), kept)
                self.assertEqual(second.kept_at(other, at), first.kept_at(keeper, at))

    def test_worlds_of_renamings(self):
        self.check_worlds(renamings, 100)

    def test_worlds_of_prunings(self):
        self.check_worlds(prunings, 100)

    def test_worlds_of_graftings(self):
        self.check_worlds(graftings, 100)

    def test_worlds_of_liftings(self):
        self.check_worlds(liftings, 100)

    def test_worlds_of_sinkings(self):
        self.check_worlds(sinkings, 50)

    def test_the_plain_keeper(self):
        for kind in KINDS:
            many = 0
            for _, program, change in self.changes(kind):
                many += 1
                carried, plain = change(Plain(program)), Plain(change.result)
                if kind in (renamings, prunings, graftings):
                    self.assertEqual(carried, plain)
                self.assertTrue(keeps_no_more(plain, carried))
                if kind is liftings:
                    self.assertTrue(keeps_no_more(carried, plain))
            self.assertGreater(many, 30)

    def test_a_sinking_may_keep_more_than_is_needed(self):
        # The plain keeper of the result does not tell x and y apart, and the carried one keeps both.
        unlike = 0
        for _, program, change in self.changes(sinkings, 250):
            unlike += change(Plain(program)) != Plain(change.result)
        self.assertGreater(unlike, 3)

    def test_comparing_and_growth(self):
        found = {}
        for kind in KINDS:
            for chance, program, change in self.changes(kind):
                one = made_keeper(chance, program)
                other = chance.choice([changed(chance, one), made_keeper(chance, program), Plain(program)])
                carried = change(one), change(other)
                self.assertEqual(keeps_no_more(*carried), keeps_no_more(one, other))
                self.assertEqual(keeps_no_more(*reversed(carried)), keeps_no_more(other, one))
                self.assertEqual(growth(*carried), growth(one, other))
                value = compared(one, other)
                if value[0] == "world":
                    self.assertTrue(is_compared(*carried, value))
                found[value[0]] = found.get(value[0], 0) + 1
        self.assertGreater(min(found.values()), 200)

    def test_choices_of_layouts_stay(self):
        for kind in (prunings, graftings):
            for chance, program, change in self.changes(kind):
                layout = made_layout(chance, program)
                self.assertEqual(change(layout).choice(), layout.choice())
        for chance, program, change in self.changes(renamings):
            layout = made_layout(chance, program)
            carried = change(layout)
            self.assertEqual(change.inverse()(carried).choice(), layout.choice())
            self.assertEqual([sorted(map(len, carried.bundles)), len(carried.linked), len(carried.opened)],
                [sorted(map(len, layout.bundles)), len(layout.linked), len(layout.opened)])

    def test_keepers_stay(self):
        for kind in KINDS:
            for chance, program, change in self.changes(kind, 25):
                keeper = made_keeper(chance, program)
                before = copy.deepcopy(tells(keeper))
                first, second = change(keeper), change(keeper)
                self.assertEqual(first, second)
                self.assertEqual(tells(keeper), before)
                self.assertEqual(change.program, program)

    def test_long_sums(self):
        for at, program in enumerate(programs(60)):
            chance = random.Random(at)
            keepers = [made_keeper(chance, program), made_layout(chance, program)]
            whole = Renaming(program, {})
            steps = [whole]
            for _ in range(4):
                try:
                    found = chance.choice(KINDS)(chance, whole.result)
                except DuplicateName:
                    found = []
                if not found:
                    continue
                steps.append(chance.choice(found))
                whole = whole + steps[-1]
            for keeper in keepers:
                carried = keeper
                for step in steps:
                    carried = step(carried)
                self.assertEqual(whole(keeper), carried)
                self.assertIs(type(whole(keeper)), type(carried))
            world = made_world(chance, program, 2, 60)
            if world:
                self.check_turn(whole, world, keepers, [whole(keeper) for keeper in keepers])


if __name__ == "__main__":
    unittest.main()
