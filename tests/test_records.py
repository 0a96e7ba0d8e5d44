"""What records have and reach, and what layouts keep by that."""

import random
import unittest

from heldby.errors import UnknownName, UnknownUnit
from heldby.keepers import points
from heldby.layouts import Layout
from heldby.programs import Program
from heldby.statements import Add, Call, Either, Function, Give, Show
from tests.makers import made_layout, programs
from tests.plain_layouts import LayoutMeans
from tests.samples import any_values
from tests.test_layouts import deep


def siblings():
    """g calls its sibling s, which uses a of main and x of f; r calls itself and gives g, and g gives r."""
    s = Function("s", body=[Show("a"), Show("x")])
    g = Function("g", things=["t"], body=[Either([Call("s", [])], [Give("r")])])
    r = Function("r", ["w"], body=[Either([Call("r", ["b"])], [Add("k", 1)]), Give("g")])
    f = Function("f", ["x"], numbers=["k"], functions=[s, g, r], body=[Give("g")])
    return Program(Function("main", things=["a", "b"], functions=[f], body=[Call("f", ["b"])]))


def items(*names):
    """Items that are written like x for a variable and f! for a record."""
    return tuple(("record", name[:-1]) if name.endswith("!") else ("variable", name) for name in names)


class ItemsTest(unittest.TestCase):
    def looked(self, layout, wanted, recorded):
        program = layout.program
        self.assertEqual({name: layout.wanted(name) for name in program.used},
                         {name: items(*wanted.get(name, "").split()) for name in program.used})
        self.assertEqual({name: layout.recorded(name) for name in program.used},
                         {name: items(*recorded.get(name, "").split()) for name in program.used})

    def test_nothing_linked(self):
        want = {"h": "a n x m y", "g": "a b n x z m", "f": "c a b n", "e": "c a b n"}
        for layout in (Layout(deep()), Layout.flat(deep()), Layout(deep(), bundles=[["a", "n"], ["x", "z"]])):
            self.looked(layout, want, want)

    def test_one_linked(self):
        want = {"h": "a n x m y", "g": "a b n x z m", "f": "c a b n", "e": "c a b n"}
        self.looked(Layout(deep(), linked=["g"]), want, {**want, "g": "f! x z m"})
        self.looked(Layout(deep(), linked=["h"]), want, {**want, "h": "g! y"})

    def test_nothing_farther_out(self):
        want = {"h": "a n x m y", "g": "a b n x z m", "f": "c a b n", "e": "c a b n"}
        self.looked(Layout(deep(), linked=["f", "e"]), want, want)

    def test_links_of_links(self):
        want = {"h": "a n x m y", "g": "a b n x z m", "f": "c a b n", "e": "c a b n"}
        self.looked(Layout(deep(), linked=["f", "g", "h", "e"]), want, {**want, "g": "f! x z m", "h": "g! y"})
        self.looked(Layout.chained(deep()), want, {**want, "g": "f! x z m", "h": "g! y"})

    def test_siblings(self):
        program = siblings()
        self.looked(Layout(program), {"s": "a x", "g": "a b x k", "r": "a b x k", "f": "a b"},
                    {"s": "a x", "g": "a b x k", "r": "a b x k", "f": "a b"})
        # Who makes a record of s needs the record of f: g, and so r, and again g.
        self.looked(Layout(program, linked=["s"]), {"s": "a x", "g": "b f! x k", "r": "b f! x k", "f": "a b"},
                    {"s": "f! x", "g": "b f! x k", "r": "b f! x k", "f": "a b"})
        self.looked(Layout(program, linked=["g", "s"]), {"s": "a x", "g": "b f! x k", "r": "b f! x k", "f": "a b"},
                    {"s": "f! x", "g": "f! x k", "r": "b f! x k", "f": "a b"})

    def test_a_record_for_others_only(self):
        # r needs a for g alone, and g is linked: its record links to that of f, which has a for the linked g.
        program = siblings()
        layout = Layout(program, linked=["s", "g", "r"])
        self.looked(layout, {"s": "a x", "g": "f! x k", "r": "b f! x k", "f": "a b"},
                    {"s": "f! x", "g": "f! x k", "r": "f! x k", "f": "a b"})

    def test_functions_that_call_and_give_themselves_and_each_other(self):
        p = Function("p", ["v"], body=[Either([Call("p", ["v"]), Give("p"), Give("q")], [Show("a")])])
        q = Function("q", body=[Give("q"), Either([Call("p", ["x"])], [Show("b"), Call("q", [])])])
        f = Function("f", ["x"], functions=[p, q], body=[Give("q"), Either([Give("f")], [])])
        program = Program(Function("main", things=["a", "b"], functions=[f], body=[Give("f")]))
        want = {"p": "a b x", "q": "a b x", "f": "a b"}
        self.looked(Layout(program), want, want)
        # p makes records of p, too, which have that of f; so it is an item of p, and of q.
        self.looked(Layout(program, linked=["p"]), {"p": "a b f! x", "q": "b f! x", "f": "a b"},
                    {"p": "f! x", "q": "b f! x", "f": "a b"})
        self.looked(Layout(program, linked=["p", "q", "f"]), {"p": "a f! x", "q": "b f! x", "f": "a b"},
                    {"p": "f! x", "q": "f! x", "f": "a b"})
        self.looked(Layout(program, linked=["q"]), {"p": "a f! x", "q": "a b f! x", "f": "a b"},
                    {"p": "a f! x", "q": "f! x", "f": "a b"})

    def test_units(self):
        layout = Layout(deep(), bundles=[["n", "a"], ["x", "m", "z"]], linked=["g"])
        first, second = ("bundle", ("a", "n")), ("bundle", ("x", "z", "m"))
        self.assertEqual({name: layout.units(name) for name in deep().used}, {
            "main": (), "f": (("alone", "c"), first, ("alone", "b")), "g": (("record", "f"), second),
            "h": (first, second, ("alone", "y")), "e": (("alone", "c"), first, ("alone", "b")),
        })

    def test_units_stand_where_their_first_item_stands(self):
        layout = Layout(deep(), bundles=[["c", "b"], ["x", "m"]])
        self.assertEqual(layout.units("f"), (("bundle", ("c", "b")), ("alone", "a"), ("alone", "n")))
        self.assertEqual(layout.units("g"),
                         (("alone", "a"), ("bundle", ("c", "b")), ("alone", "n"), ("bundle", ("x", "m")),
                             ("alone", "z")))

    def test_reach(self):
        layout = Layout(deep(), bundles=[["n", "a", "b"], ["x", "m"]], linked=["g", "h"])
        want = {
            ("alone", "c"): ("c",), ("alone", "z"): ("z",), ("alone", "y"): ("y",),
                ("bundle", ("a", "b", "n")): ("a", "b"),
            ("bundle", ("x", "m")): ("x",), ("record", "main"): (), ("record", "f"): ("a", "b", "c"),
            ("record", "g"): ("a", "b", "c", "x", "z"), ("record", "h"): ("a", "b", "c", "x", "y", "z"),
            ("record", "e"): ("a", "b", "c"),
        }
        self.assertEqual({unit: layout.reach(unit) for unit in want}, want)
        self.assertEqual(layout.reach(unit=("record", "f")), ("a", "b", "c"))
        self.assertEqual([Layout(deep()).reach(("alone", name)) for name in "nmab"], [(), (), ("a",), ("b",)])
        numbers = Program(Function("main", numbers=["m", "n"], functions=[Function("f", body=[Add("n", 1), Show("m")])],
                                   body=[Give("f")]))
        layout = Layout(numbers, bundles=[["m", "n"]])
        self.assertEqual([layout.reach(("bundle", ("m", "n"))), layout.closure("f")], [(), ()])

    def test_unknown_names(self):
        layout = Layout(deep(), bundles=[["a", "b"]])
        for value in any_values() + ["k", "i", "a", "nobody", ["f"], ("f",), ("record", "f")]:
            for look in (layout.wanted, layout.recorded, layout.units):
                with self.assertRaises(UnknownName) as caught:
                    look(value)
                self.assertIs(caught.exception.value, value)

    def test_unknown_units(self):
        layout = Layout(deep(), bundles=[["a", "b"], ["x", "m", "z"]])
        wrong = any_values() + [
            "a", "f", ("alone",), ("alone", "a"), ("alone", "b"), ("alone", "m"), ("alone", "d"), ("alone", "w"),
            ("alone", "q"), ("alone", "f"), ("alone", ("c",)), ["alone", "c"], ("alone", "c", "c"), ("bundle", "a"),
            ("bundle", ("b", "a")), ("bundle", ["a", "b"]), ("bundle", ("a",)), ("bundle", ("x", "z")), ("bundle", ()),
            ("bundle", ("x", "m", "z")), ("record", "k"), ("record", "i"), ("record", "a"), ("record", ("f",)),
            ("record", "nobody"), ("variable", "c"), ("Record", "f"), (["record"], "f"), ("record", ["f"]),
                ("record", {}),
            (("alone", "c"),), ("a", "b"), ("bundle", ("a", ["b"])), ("bundle", (("a", "b"),)),
        ]
        wrong += [(value, "f") for value in any_values()] + [("alone", value) for value in any_values()]
        wrong += [("bundle", ("a", value)) for value in any_values()]
        for value in wrong:
            with self.assertRaises(UnknownUnit) as caught:
                layout.reach(value)
            self.assertIs(caught.exception.value, value)
        for unit in (("bundle", ("a", "b")), ("bundle", ("x", "z", "m")), ("alone", "c"), ("record", "main")):
            layout.reach(unit)

    def test_many_programs(self):
        kinds = {"record in record": 0, "number in bundle": 0, "number alone": 0, "record for others": 0}
        for at, program in enumerate(programs(120, 2)):
            chance = random.Random(at)
            for _ in range(4):
                layout = made_layout(chance, program)
                want = LayoutMeans(program, *layout.choice())
                for name in program.used:
                    self.assertEqual(set(layout.wanted(name)), want.items[name])
                    self.assertEqual(set(layout.recorded(name)), want.recorded[name])
                    self.in_order(layout, layout.wanted(name))
                    self.in_order(layout, layout.recorded(name))
                    self.assertEqual(layout.units(name), units(layout, layout.recorded(name)))
                    self.assertEqual(layout.reach(("record", name)), tuple(sorted(want.reach_of_record(name))))
                    for kind, value in layout.units(name):
                        kinds["record in record"] += kind == "record" and any(u[0] == "record"
                            for u in layout.units(value))
                        kinds["number in bundle"] += kind == "bundle" and any(is_number(program, v) for v in value)
                        kinds["number alone"] += kind == "alone" and is_number(program, value)
                        kinds["record for others"] += kind == "record" and name not in layout.linked
        self.assertGreater(min(kinds.values()), 20, kinds)

    def in_order(self, layout, found):
        program = layout.program
        order = [item for name in program.functions
                 for item in [("record", name), *[("variable", variable) for variable in program.variables(name)]]]
        self.assertIsInstance(found, tuple)
        self.assertEqual(list(found), [item for item in order if item in found])


def is_number(program, variable):
    return any(variable in program.function(name).numbers for name in program.functions)


def units(layout, recorded):
    """The units of recorded items, by the bundles of the layout."""
    found = []
    for kind, name in recorded:
        bundles = [bundle for bundle in layout.bundles if kind == "variable" and name in bundle]
        unit = ("record", name) if kind == "record" else ("bundle", bundles[0]) if bundles else ("alone", name)
        if unit not in found:
            found.append(unit)
    return tuple(found)


class KeepingTest(unittest.TestCase):
    def frames(self, layout, name):
        return {point: "".join(layout.frame(name, point)) for point in points(layout.program, name)}

    def closures(self, layout):
        return {name: "".join(layout.closure(name)) for name in layout.program.functions}

    def test_closures(self):
        nothing = {"main": "", "k": "", "i": ""}
        self.assertEqual(self.closures(Layout(deep())), {**nothing, "h": "axy", "g": "abxz", "f": "abc", "e": "abc"})
        layout = Layout(deep(), bundles=[["b", "n"]])
        self.assertEqual(self.closures(layout), {**nothing, "h": "abxy", "g": "abxz", "f": "abc", "e": "abc"})
        layout = Layout(deep(), linked=["h"], opened=["f", "g", "h", "e"])
        self.assertEqual(self.closures(layout), {**nothing, "h": "abxyz", "g": "abxz", "f": "abc", "e": "abc"})

    def test_own_things_that_are_shown_or_passed_on(self):
        # x, w and z of f lie in no bundle: for its own things a frame needs no record.
        body = [Show("x"), Call("g", ["z"]), Either([Show("w")], [])]
        f = Function("f", ["x", "w"], things=["z"], functions=[Function("g", ["y"], body=[Show("y")])], body=body)
        program = Program(Function("main", ["a"], functions=[f], body=[Call("f", ["a", "a"])]))
        for opened in ((), ("f", "g")):
            layout = Layout(program, opened=opened)
            self.assertEqual(self.frames(layout, "f"), {(): "wxz", (0,): "wz", (1,): "w", (2,): "", (2, 0): "w",
                                                        (2, 0, 0): "", (2, 1): ""})

    def test_an_own_thing_in_a_bundle_is_kept_alone_where_it_is_shown(self):
        g = Function("g", body=[Show("x"), Show("y")])
        f = Function("f", ["x"], things=["y"], numbers=["n"], functions=[g, Function("h", body=[Add("n", 1)])],
                     body=[Give("g"), Show("n"), Add("n", 1), Give("h"), Show("x")])
        program = Program(Function("main", ["a"], functions=[f], body=[Call("f", ["a"])]))
        layout = Layout(program, bundles=[["x", "y"]])
        self.assertEqual(self.frames(layout, "f"), {(): "xy", (0,): "x", (1,): "x", (2,): "x", (3,): "x", (4,): ""})
        # A captured number lies in the bundle, and so a frame that uses it has the whole bundle.
        layout = Layout(program, bundles=[["y", "n"]])
        self.assertEqual(self.frames(layout, "f"), {(): "xy", (0,): "xy", (1,): "xy", (2,): "xy", (3,): "x", (4,): ""})

    def test_a_number_that_is_not_captured(self):
        body = [Show("n"), Add("n", 1), Give("g")]
        f = Function("f", ["x"], numbers=["n"], functions=[Function("g", body=[Show("x")])], body=body)
        program = Program(Function("main", ["a"], functions=[f], body=[Call("f", ["a"])]))
        layout = Layout(program)
        self.assertEqual(self.frames(layout, "f"), {(): "x", (0,): "x", (1,): "x", (2,): ""})

    def test_not_opened_holds_all_its_units(self):
        g = Function("g", body=[Show("a"), Show("x"), Show("y"), Show("y")])
        f = Function("f", ["x"], things=["y"], functions=[g], body=[Show("y"), Give("g"), Show("b"), Show("x")])
        program = Program(Function("main", things=["a", "b"], functions=[f], body=[Call("f", ["a"])]))
        closed, opened = Layout(program), Layout(program, opened=["f", "g"])
        self.assertEqual(self.frames(closed, "f"), {(): "abxy", (0,): "abxy", (1,): "abx", (2,): "x", (3,): ""})
        self.assertEqual(self.frames(opened, "f"), {(): "abxy", (0,): "abxy", (1,): "bx", (2,): "x", (3,): ""})
        self.assertEqual(self.frames(closed, "g"), {(): "axy", (0,): "axy", (1,): "axy", (2,): "axy", (3,): ""})
        self.assertEqual(self.frames(opened, "g"), {(): "axy", (0,): "xy", (1,): "y", (2,): "y", (3,): ""})

    def test_opened_and_linked(self):
        # g reaches a of main by the record of f, which has b for the linked h.
        g = Function("g", body=[Show("a"), Show("x")])
        h = Function("h", body=[Show("b")])
        f = Function("f", ["x"], functions=[g, h], body=[Give("g"), Give("h")])
        program = Program(Function("main", things=["a", "b"], functions=[f], body=[Call("f", ["a"])]))
        layout = Layout(program, linked=["g", "h"], opened=["g"])
        self.assertEqual(layout.units("f"), (("alone", "a"), ("alone", "b")))
        self.assertEqual(layout.units("g"), (("record", "f"), ("alone", "x")))
        self.assertEqual(self.frames(layout, "g"), {(): "abx", (0,): "x", (1,): ""})
        self.assertEqual(self.frames(layout, "h"), {(): "ab", (0,): ""})
        self.assertEqual(self.closures(layout), {"main": "", "f": "ab", "g": "abx", "h": "ab"})
        # While f may give one of them, it holds its own record.
        self.assertEqual(self.frames(layout, "f"), {(): "abx", (0,): "ab", (1,): ""})
        self.assertEqual(self.frames(Layout(program, linked=["g", "h"], opened=["f", "g", "h"]), "f"),
                         {(): "abx", (0,): "ab", (1,): ""})
        unlinked = Layout(program, opened=["f", "g", "h"])
        self.assertEqual(self.frames(unlinked, "f"), {(): "abx", (0,): "b", (1,): ""})

    def test_siblings_with_the_record_of_their_parent(self):
        program = siblings()
        layout = Layout(program, linked=["s"], opened=["g"])
        # In its first list g calls s, whose record has that of f, with a and b, and x; in the second one it gives r.
        want = {(): "abx", (0, 0): "abx", (0, 0, 0): "", (0, 1): "abx", (0, 1, 0): "", (0,): ""}
        self.assertEqual(self.frames(layout, "g"), want)
        layout = Layout(program, opened=["g", "s", "r", "f"])
        self.assertEqual(self.frames(layout, "g"), {**want, (0, 0): "ax", (0, 1): "abx"})

    def test_functions_that_are_not_used_keep_nothing(self):
        for layout in (Layout(deep()), Layout.flat(deep()), Layout.chained(deep())):
            for name in ("k", "i"):
                self.assertEqual(layout.closure(name), ())
                self.assertEqual(set(self.frames(layout, name).values()), {""})

    def test_many_programs(self):
        looked = 0
        for at, program in enumerate(programs(200)):
            chance = random.Random(at)
            for layout in [made_layout(chance, program) for _ in range(3)] + [Layout.chained(program), Layout(program)]:
                want = LayoutMeans(program, *layout.choice())
                for name in program.functions:
                    self.assertEqual(set(layout.closure(name)), want.closure(name))
                    for point in points(program, name):
                        self.assertEqual(set(layout.frame(name, point)), want.frame(name, point))
                        looked += 1
        self.assertGreater(looked, 5000)


if __name__ == "__main__":
    unittest.main()
