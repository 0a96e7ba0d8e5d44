import random
import unittest

from heldby.errors import InvalidBundle, InvalidIndex, InvalidList, NotFlag, NotJoined, OtherProgram, UnknownName
from heldby.keepers import Plain, points
from heldby.layouts import Layout
from heldby.programs import Program
from heldby.statements import Add, Call, Either, Function, Give, Show
from tests.makers import made_layout, programs
from tests.samples import any_values


def deep():
    """main captures c, a, b and n; f captures x, m and z; g captures y; d, w and v are not captured; k is not used."""
    h = Function("h", ["v"], body=[Show("y"), Show("x"), Show("a"), Add("n", 1), Add("m", 1)])
    g = Function("g", ["y"], functions=[h], body=[Give("h"), Show("b"), Show("z")])
    f = Function("f", ["x", "w"], things=["z"], numbers=["m"], functions=[g], body=[Call("g", ["w"]), Show("c")])
    e = Function("e", body=[Call("f", ["a", "b"])])
    k = Function("k", ["q"], functions=[Function("i", body=[Show("q")])], body=[Give("i")])
    return Program(Function("main", ["c", "d"], things=["a", "b"], numbers=["n"], functions=[f, e, k],
                            body=[Give("e"), Show("d")]))


def shuffled(seed, rows):
    chance = random.Random(seed)
    rows = [list(row) for row in rows]
    for row in rows:
        chance.shuffle(row)
    chance.shuffle(rows)
    return rows


class ChoiceTest(unittest.TestCase):
    def test_the_program(self):
        program = deep()
        self.assertEqual(program.used, ("main", "f", "g", "h", "e"))
        self.assertEqual([program.captured(name) for name in program.used],
                         [("c", "a", "b", "n"), ("x", "z", "m"), ("y",), (), ()])

    def test_nothing_chosen(self):
        layout = Layout(deep())
        self.assertEqual([layout.bundles, layout.linked, layout.opened, layout.choice()], [(), (), (), ((), (), ())])

    def test_orders(self):
        for seed in range(20):
            bundles = shuffled(seed, [["b", "c", "n"], ["m", "x"]])
            functions = shuffled(seed, [["h", "f", "e"], ["e", "g", "e", "h", "g"]])
            layout = Layout(deep(), bundles=bundles, linked=functions[0], opened=functions[1])
            self.assertEqual(layout.bundles, (("c", "b", "n"), ("x", "m")))
            self.assertEqual({layout.linked, layout.opened}, {("f", "h", "e"), ("g", "h", "e")})
            self.assertEqual(layout.choice(), (layout.bundles, layout.linked, layout.opened))
        layout = Layout(deep(), bundles=[["m", "z"], ["n", "b"], ["a", "c"]])
        self.assertEqual(layout.bundles, (("c", "a"), ("b", "n"), ("z", "m")))
        # By their first variables alone.
        for bundles in shuffled(1, [["n", "c"], ["b", "a"]]), [["c", "n"], ["a", "b"]], [["a", "b"], ["c", "n"]]:
            self.assertEqual(Layout(deep(), bundles=bundles).bundles, (("c", "n"), ("a", "b")))

    def test_tuples(self):
        layout = Layout(deep(), bundles=(("a", "b"), ["x", "z"]), linked=("g",), opened=("f", "f"))
        self.assertEqual(layout.choice(), ((("a", "b"), ("x", "z")), ("g",), ("f",)))
        for part in layout.choice() + layout.bundles:
            self.assertIsInstance(part, tuple)

    def test_properties(self):
        layout = Layout(deep(), bundles=[["a", "b"]], linked=["f"], opened=["g"])
        before = layout.choice()
        for name in ("program", "bundles", "linked", "opened"):
            with self.assertRaises(AttributeError):
                setattr(layout, name, ())
        self.assertEqual(layout.choice(), before)

    def test_listed_methods_stand_in_the_class(self):
        names = "choice bundles linked opened wanted recorded units reach flat chained unbundled joined"
        for name in [*names.split(), "with_link", "with_open", "refines"]:
            self.assertIn(name, vars(Layout))

    def test_later_changes(self):
        bundle, bundles, linked, opened = ["b", "a"], [], ["g"], ["f"]
        bundles.append(bundle)
        layout = Layout(deep(), bundles=bundles, linked=linked, opened=opened)
        before = layout.choice()
        bundle.append("c")
        bundles.clear()
        linked.append("f")
        opened.clear()
        self.assertEqual(layout.choice(), before)
        self.assertEqual((linked, opened), (["g", "f"], []))

    def test_arguments_stay(self):
        bundles, linked, opened = [["b", "a"], ["m", "x"]], ["h", "g", "h"], ["f", "e", "e"]
        Layout(deep(), bundles=bundles, linked=linked, opened=opened)
        self.assertEqual((bundles, linked, opened), ([["b", "a"], ["m", "x"]], ["h", "g", "h"], ["f", "e", "e"]))

    def test_layouts_of_unlike_choices_may_be_equal(self):
        program = deep()
        self.assertEqual(Layout(program, opened=["h"]), Layout(program, opened=["h"], linked=[]))
        one, other = Layout(program, linked=["e"], opened=["e"]), Layout(program, opened=["e"])
        self.assertNotEqual(one.choice(), other.choice())
        self.assertTrue(one == other)


class ErrorsTest(unittest.TestCase):
    def refused(self, error, word, value, **told):
        with self.assertRaises(error) as caught:
            Layout(deep(), **told)
        self.assertEqual(list(vars(caught.exception)), [word])
        got = getattr(caught.exception, word)
        self.assertTrue(got is value or (got == value and type(got) is type(value)), (got, value))

    def test_no_list_of_bundles(self):
        for value in any_values() + ["a", "ab"]:
            if not isinstance(value, (list, tuple)):
                self.refused(InvalidBundle, "index", -1, bundles=value, linked=None, opened=None)

    def test_wrong_bundles(self):
        wrong = any_values() + ["ab", "a", ["a"], ("a",), [], ["a", "a"], ["a", "b", "a"], ["a", "x"], ["x", "y"],
            ["a", "d"]]
        wrong += [["d", "a"], ["a", "q"], ["q", "a"], ["a", "f"], ["a", "main"], [["a", "b"]], ["a", ["b"]], ["w", "x"]]
        wrong += [["y", "v"], ["n", "m"], ["a", "b", "x"], {"a": 1, "b": 2}]
        wrong += [["a", value] for value in any_values()] + [[value, "a", "b"] for value in any_values()]
        for value in wrong:
            self.refused(InvalidBundle, "index", 0, bundles=[value], linked=["main"], opened=None)
            self.refused(InvalidBundle, "index", 2, bundles=[["x", "z"], ("a", "b"), value, None], linked=None)

    def test_variables_in_two_bundles(self):
        self.refused(InvalidBundle, "index", 1, bundles=[["a", "b"], ["b", "c"]])
        self.refused(InvalidBundle, "index", 1, bundles=[["a", "b"], ["a", "b"], ["x"]])
        self.refused(InvalidBundle, "index", 2, bundles=[["a", "b"], ["x", "z"], ["c", "n", "a"], ["m"]])

    def test_no_lists_of_functions(self):
        for value in any_values() + ["f", {"f"}]:
            if not isinstance(value, (list, tuple)):
                self.refused(InvalidList, "value", "linked", linked=value, opened=value)
                self.refused(InvalidList, "value", "linked", linked=value, opened=["main"])
                self.refused(InvalidList, "value", "opened", linked=["f"], opened=value)

    def test_wrong_functions(self):
        for value in any_values() + ["main", "k", "i", "a", "x", "nobody", ["f"], ("f",)]:
            self.refused(UnknownName, "value", value, linked=["f", value, "main"], opened=None)
            self.refused(UnknownName, "value", value, linked=("f",), opened=["g", "g", value, "k"])
            self.refused(UnknownName, "value", value, opened=(value,))

    def test_keywords_only(self):
        with self.assertRaises(TypeError):
            Layout(deep(), [["a", "b"]])


class FlatTest(unittest.TestCase):
    def test_flat(self):
        flat = Layout.flat(deep())
        self.assertEqual(flat.choice(), ((), (), ("f", "g", "h", "e")))
        self.assertIs(type(flat), Layout)
        self.assertEqual(Layout.flat(program=deep()).choice(), flat.choice())

    def test_chained(self):
        chained = Layout.chained(deep())
        self.assertEqual(chained.choice(), ((("c", "a", "b", "n"), ("x", "z", "m")), ("f", "g", "h", "e"), ()))
        self.assertIs(type(chained), Layout)

    def test_only_main(self):
        program = Program(Function("main", ["a"], body=[Show("a")]))
        self.assertEqual([Layout.flat(program).choice(), Layout.chained(program).choice()], [((), (), ())] * 2)

    def test_many_programs(self):
        for program in programs(150):
            flat, chained = Layout.flat(program), Layout.chained(program)
            captured = [program.captured(name) for name in program.used]
            self.assertEqual(flat.choice(), ((), (), program.used[1:]))
            self.assertEqual(chained.choice(), (tuple(row for row in captured if len(row) > 1), program.used[1:], ()))
            self.assertEqual(flat, Plain(program))


class ChangesTest(unittest.TestCase):
    def setUp(self):
        self.layout = Layout(deep(), bundles=[["c", "b"], ["x", "m", "z"]], linked=["g"], opened=["f", "h"])
        self.before = self.layout.choice()

    def tearDown(self):
        self.assertEqual(self.layout.choice(), self.before)

    def test_unbundled(self):
        self.assertEqual(self.layout.unbundled(0).choice(), ((("x", "z", "m"),), ("g",), ("f", "h")))
        self.assertEqual(self.layout.unbundled(index=1).choice(), ((("c", "b"),), ("g",), ("f", "h")))
        self.assertEqual(self.layout.unbundled(1).unbundled(0).choice(), ((), ("g",), ("f", "h")))

    def test_invalid_indexes(self):
        for value in any_values() + [2, -1, -2, "0", [0], (0,)]:
            if type(value) is int and value in (0, 1):
                continue
            with self.assertRaises(InvalidIndex) as caught:
                self.layout.unbundled(value)
            self.assertIs(caught.exception.value, value)
        for value in (True, False):
            with self.assertRaises(InvalidIndex):
                self.layout.unbundled(value)
        with self.assertRaises(InvalidIndex):
            Layout(deep()).unbundled(0)

    def test_joined(self):
        rest = (("g",), ("f", "h"))
        for one, other, want in (
            ("a", "n", (("c", "b"), ("a", "n"), ("x", "z", "m"))),
            ("n", "a", (("c", "b"), ("a", "n"), ("x", "z", "m"))),
            ("a", "b", (("c", "a", "b"), ("x", "z", "m"))),
            ("c", "a", (("c", "a", "b"), ("x", "z", "m"))),
        ):
            self.assertEqual(self.layout.joined(one, other).choice(), (want, *rest))
        layout = Layout(deep(), bundles=[["c", "b"], ["n", "a"]])
        self.assertEqual(layout.joined("a", "c").choice(), ((("c", "a", "b", "n"),), (), ()))
        self.assertEqual(layout.joined(one="x", other="m").bundles, (("c", "b"), ("a", "n"), ("x", "m")))

    def test_joined_already(self):
        for one, other in (("c", "b"), ("b", "c"), ("x", "z"), ("m", "z"), ("a", "a"), ("c", "c"), ("y", "y")):
            self.assertIs(self.layout.joined(one, other), self.layout)

    def test_joined_of_unknown_names(self):
        for value in any_values() + ["d", "w", "v", "q", "f", "main", "nobody", ["a"], ("a",), ("c", "b")]:
            for pair in ((value, "a"), (value, None), ("a", value), ("y", value)):
                with self.assertRaises(UnknownName) as caught:
                    self.layout.joined(*pair)
                self.assertIs(caught.exception.value, value)

    def test_not_joined(self):
        for one, other in (("a", "x"), ("x", "a"), ("x", "y"), ("n", "m")):
            with self.assertRaises(NotJoined) as caught:
                self.layout.joined(one, other)
            self.assertEqual(vars(caught.exception), {})

    def test_switches(self):
        bundles = self.layout.bundles
        for name, on, linked, opened in (
            ("f", True, ("f", "g"), ("f", "h")), ("e", True, ("g", "e"), ("f", "h", "e")),
            ("g", True, ("g",), ("f", "g", "h")), ("g", False, (), ("f", "h")), ("h", False, ("g",), ("f",)),
            ("f", False, ("g",), ("h",)), ("e", False, ("g",), ("f", "h")),
        ):
            self.assertEqual(self.layout.with_link(name, on).choice(), (bundles, linked, ("f", "h")))
            self.assertEqual(self.layout.with_open(name=name, on=on).choice(), (bundles, ("g",), opened))

    def test_switches_of_wrong_values(self):
        for switch in (self.layout.with_link, self.layout.with_open):
            for value in any_values() + ["main", "k", "i", "a", "nobody", ["f"], ("f",)]:
                for on in (True, None):
                    with self.assertRaises(UnknownName) as caught:
                        switch(value, on)
                    self.assertIs(caught.exception.value, value)
            for value in any_values() + [0, 1, None, "True", [True]]:
                if not isinstance(value, bool):
                    with self.assertRaises(NotFlag) as caught:
                        switch("f", value)
                    self.assertIs(caught.exception.value, value)


class RefinesTest(unittest.TestCase):
    def test_each_choice(self):
        program = deep()
        coarse = Layout(program, bundles=[["c", "b", "n"], ["x", "z"]], linked=["f", "g"], opened=["h"])
        fine = Layout(program, bundles=[["b", "c"]], linked=["g"], opened=["h", "e"])
        self.assertIs(fine.refines(coarse), True)
        self.assertIs(coarse.refines(fine), False)
        self.assertIs(coarse.refines(other=coarse), True)
        for layout in (
            coarse.joined("a", "c"), coarse.joined("x", "m"), coarse.with_link("h", True), coarse.with_open("h", False),
        ):
            self.assertIs(layout.refines(coarse), False)
            self.assertIs(coarse.refines(layout), True)
        across = Layout(program, bundles=[["a", "c"]], opened=["h"])
        self.assertIs(across.refines(coarse), False)
        self.assertIs(Layout(program, bundles=[["x", "z"], ["n", "c"]], opened=["h"]).refines(coarse), True)
        self.assertIs(Layout(program, bundles=[["a", "b"], ["c", "n"]]).refines(
            Layout(program, bundles=[["a", "c"], ["b", "n"]])), False)

    def test_many_programs(self):
        seen = [0, 0]
        for at, program in enumerate(programs(200, 2)):
            chance = random.Random(at)
            one, other = made_layout(chance, program), made_layout(chance, program)
            for first, second in ((one, other), (other, one), (Layout.flat(program), one),
                (one, Layout.chained(program))):
                want = all(any(set(row) <= set(wider) for wider in second.bundles) for row in first.bundles)
                want = want and set(first.linked) <= set(second.linked) and set(second.opened) <= set(first.opened)
                self.assertIs(first.refines(second), want)
                seen[want] += 1
            self.assertTrue(Layout.flat(program).refines(one) and one.refines(Layout.chained(program)))
        self.assertGreater(min(seen), 20)

    def test_other_programs(self):
        with self.assertRaises(OtherProgram):
            Layout(deep()).refines(Layout(Program(Function("main", ["a"]))))
        self.assertTrue(Layout(deep()).refines(Layout(deep())))


def tells(keeper):
    program = keeper.program
    frames = {(name, point): keeper.frame(name, point) for name in program.functions for point in points(program, name)}
    return {**frames, **{name: keeper.closure(name) for name in program.functions}}


class FactsTest(unittest.TestCase):
    """What [34] tells, on many programs."""

    def less(self, one, other):
        """That one keeps no more than other at any place, and whether it keeps less somewhere."""
        first, second = tells(one), tells(other)
        for place in first:
            self.assertLessEqual(set(first[place]), set(second[place]), place)
        return first != second

    def test_no_layout_keeps_less_than_plain(self):
        unlike = 0
        for at, program in enumerate(programs(250, 2)):
            chance = random.Random(at)
            for layout in [made_layout(chance, program) for _ in range(5)] + [Layout.chained(program), Layout(program)]:
                unlike += self.less(Plain(program), layout)
        self.assertGreater(unlike, 60)

    def test_single_steps(self):
        unlike = {"split": 0, "link": 0, "open": 0}
        for at, program in enumerate(programs(250, 2)):
            chance = random.Random(at + 1000)
            for _ in range(3):
                layout = made_layout(chance, program)
                for index in range(len(layout.bundles)):
                    unlike["split"] += self.less(layout.unbundled(index), layout)
                for name in program.used[1:]:
                    unlike["link"] += self.less(layout.with_link(name, False), layout.with_link(name, True))
                    unlike["open"] += self.less(layout.with_open(name, True), layout.with_open(name, False))
        self.assertGreater(min(unlike.values()), 20, unlike)

    def test_refining_layouts(self):
        unlike = 0
        for at, program in enumerate(programs(250, 2)):
            chance = random.Random(at + 2000)
            coarse = made_layout(chance, program)
            for _ in range(4):
                bundles = [bundle for bundle in coarse.bundles if chance.random() < 0.7]
                linked = [name for name in coarse.linked if chance.random() < 0.7]
                opened = [name for name in program.used[1:] if name in coarse.opened or chance.random() < 0.3]
                fine = Layout(program, bundles=[row[:max(2, len(row) - 1)] for row in bundles], linked=linked,
                    opened=opened)
                self.assertTrue(fine.refines(coarse))
                unlike += self.less(fine, coarse)
        self.assertGreater(unlike, 20)

    def test_bodies_of_all_kinds_are_among_them(self):
        kinds = set()
        for program in programs(100):
            for name in program.functions:
                kinds |= {type(row) for row in program.function(name).body}
        self.assertEqual(kinds, {Show, Add, Call, Give, Either})


if __name__ == "__main__":
    unittest.main()
