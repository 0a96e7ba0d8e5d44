import random
import unittest

from heldby.errors import InvalidWeights, InvalidWorld, TooLong, UnknownName
from heldby.keepers import Plain
from heldby.layouts import Layout
from heldby.limits import MOMENTS
from heldby.prices import entry_price, paid, price, statement_prices, way_of
from heldby.programs import Program
from heldby.statements import Add, Call, Either, Function, Give, Show
from tests.makers import made_layout, made_world, programs
from tests.plain_prices import Priced
from tests.samples import any_values
from tests.test_grown import pair


def nest():
    """h stands in g, g in f, f in main; n, m and k are numbers, and u is not used."""
    h = Function("h", ["z"], numbers=["k"], body=[Show("a"), Show("x"), Show("y"), Add("n", 1), Add("m", 2),
        Add("k", 3),
        Show("z"), Call("g", ["a"])])
    g = Function("g", ["y"], functions=[h], body=[Either([Call("h", ["b"])], [Give("h"), Show("m")]), Show("y")])
    f = Function("f", ["x"], things=["w"], numbers=["m"], functions=[g],
        body=[Call("g", ["x"]), Add("m", 1), Show("w")])
    u = Function("u", ["p"], body=[Show("a")])
    return Program(Function("main", ["a"], things=["b"], numbers=["n", "o"], functions=[f, u],
        body=[Call("f", ["a"]), Show("n"), Show("o"), Give("f")]))


class WaysTest(unittest.TestCase):
    def ways(self, layout, name):
        return {variable: way_of(layout, name, variable) for variable in layout.program.uses(name)}

    def test_own_variables(self):
        layout = Layout(nest())
        # n is captured, o is not; things cost nothing, captured or not.
        self.assertEqual(self.ways(layout, "main"), {"a": 0, "n": 1, "o": 0})
        self.assertEqual(self.ways(layout, "f"), {"x": 0, "w": 0, "m": 1})
        bundled = Layout(nest(), bundles=[["a", "n"]], linked=["f"])
        self.assertEqual(self.ways(bundled, "main"), {"a": 0, "n": 1, "o": 0})

    def test_variables_of_other_functions(self):
        program = nest()
        self.assertEqual(self.ways(Layout(program), "h"),
            {"a": 1, "n": 2, "x": 1, "m": 2, "y": 1, "z": 0, "k": 0})
        self.assertEqual(self.ways(Layout(program, opened=["h"]), "h"),
            {"a": 0, "n": 1, "x": 0, "m": 1, "y": 0, "z": 0, "k": 0})
        self.assertEqual(self.ways(Layout(program, opened=["f", "g"]), "h"), self.ways(Layout(program), "h"))

    def test_bundles(self):
        program = nest()
        layout = Layout(program, bundles=[["a", "n"], ["x", "m"]], opened=["h"])
        self.assertEqual(self.ways(layout, "h"), {"a": 1, "n": 1, "x": 1, "m": 1, "y": 0, "z": 0, "k": 0})
        layout = Layout(program, bundles=[["a", "b"]])
        self.assertEqual(self.ways(layout, "h"), {"a": 2, "n": 2, "x": 1, "m": 2, "y": 1, "z": 0, "k": 0})
        self.assertEqual(way_of(layout, "g", "b"), 2)

    def test_links(self):
        program = nest()
        # From h: y is in the parent, x behind one link, a and n behind that of g, too, if g is linked.
        for linked, far in ((["h"], 1), (["h", "g"], 2), (["h", "g", "f"], 2), (["h", "f"], 1), (["g", "f"], 0)):
            layout = Layout(program, linked=linked, opened=["h"])
            near = 1 if "h" in linked else 0
            self.assertEqual(self.ways(layout, "h"),
                {"a": far, "n": far + 1, "x": near, "m": near + 1, "y": 0, "z": 0, "k": 0})
            # Whether the functions farther out are opened does not count.
            opened = Layout(program, linked=linked, opened=["f", "g"])
            self.assertEqual(self.ways(opened, "h"), self.ways(Layout(program, linked=linked), "h"))
            self.assertEqual(way_of(opened, "h", "a"), far + 1)
        self.assertEqual(way_of(Layout(program, linked=["g"]), "g", "m"), 2)
        self.assertEqual(way_of(Layout(program, linked=["g"]), "g", "b"), 2)

    def test_wrong_values(self):
        layout = Layout(nest())
        for value in [*any_values(), "u", "a", "nobody"]:
            for call in (lambda: way_of(layout, value, "a"), lambda: way_of(layout, value, None),
                lambda: entry_price(layout, value), lambda: statement_prices(layout, value)):
                with self.assertRaises(UnknownName) as caught:
                    call()
                self.assertIs(caught.exception.value, value)
        for name in layout.program.used:
            for value in [*any_values(), "u", "p", "f", "nobody", *[x for x in "abnoxwmyzkp"
                if x not in layout.program.uses(name)]]:
                with self.assertRaises(UnknownName) as caught:
                    way_of(layout, name, value)
                self.assertIs(caught.exception.value, value)

    def test_names_of_arguments(self):
        layout = Layout(nest())
        self.assertEqual(way_of(layout=layout, name="h", variable="n"), 2)
        self.assertEqual(entry_price(layout=layout, name="f"), 1)
        self.assertEqual(statement_prices(layout=layout, name="f"), statement_prices(layout, "f"))
        self.assertEqual(price(layout=layout, weights={"f": 0}), price(layout, {"f": 0}))
        self.assertEqual(paid(layout=layout, world=[(0, (1,), (1, 1), (), ())]),
            paid(layout, [(0, (1,), (1, 1), (), ())]))


class EntriesAndStatementsTest(unittest.TestCase):
    def test_entries(self):
        program = nest()
        for layout, want in (
            # A captured number in no bundle has a cell; o and k have none.
            (Layout(program), [1, 1, 0, 0]),
            # h needs a, b, n, x, m, y, as it calls g; g all of these but y; f a, b and n.
            (Layout(program, opened=["f", "g", "h"]), [1, 1 + 3, 5, 6]),
            (Layout(program, bundles=[["a", "n"]]), [2, 1, 0, 0]),
            (Layout(program, bundles=[["a", "n", "b"], ["x", "m"]], opened=["f", "g", "h"]), [3, 2 + 1, 2, 3]),
            (Layout(program, bundles=[["a", "b"]], linked=["g", "h"], opened=["g", "h"]), [2 + 1, 1, 3, 2]),
        ):
            self.assertEqual([entry_price(layout, name) for name in program.used], want)

    def test_statements(self):
        program = nest()
        layout = Layout(program, bundles=[["a", "b"]], opened=["h"])
        self.assertEqual(statement_prices(layout, "main"), {(0,): 2, (1,): 1, (2,): 0, (3,): 2})
        # A call costs the units of what it calls, and the ways of what it passes.
        self.assertEqual(statement_prices(layout, "g"),
            {(0,): 0, (0, 0, 0): 5 + 2, (0, 1, 0): 5, (0, 1, 1): 2, (1,): 0})
        self.assertEqual(statement_prices(layout, "f"), {(0,): 4, (1,): 1, (2,): 0})
        self.assertEqual(list(statement_prices(layout, "g")), [(0,), (0, 0, 0), (0, 1, 0), (0, 1, 1), (1,)])

    def test_things_that_are_passed_twice(self):
        f = Function("f", ["x", "y"], body=[Show("x")])
        g = Function("g", body=[Call("f", ["a", "a"]), Call("f", ["a", "b"])])
        program = Program(Function("main", ["a"], things=["b"], functions=[f, g], body=[Call("g", [])]))
        self.assertEqual(statement_prices(Layout(program), "g"), {(0,): 2, (1,): 2})
        self.assertEqual(statement_prices(Layout(program, bundles=[["a", "b"]]), "g"), {(0,): 4, (1,): 4})

    def test_returned_dicts_are_new(self):
        layout = Layout(nest())
        statement_prices(layout, "f").clear()
        self.assertEqual(len(statement_prices(layout, "f")), 3)


class PriceTest(unittest.TestCase):
    def test_examples(self):
        both = Layout(pair(), bundles=[["a", "b"]])
        self.assertEqual([price(both), price(Layout.flat(pair())), way_of(both, "f", "a")], [8, 4, 2])
        self.assertEqual(price(both, {"main": 0, "g": 3}), 8)

    def test_weights(self):
        program = nest()
        layout = Layout(program, bundles=[["a", "b"]], linked=["h"], opened=["g"])
        parts = {name: entry_price(layout, name) + sum(statement_prices(layout,
            name).values()) for name in program.used}
        self.assertTrue(all(parts.values()))
        self.assertEqual(price(layout), sum(parts.values()))
        self.assertEqual(price(layout, None), price(layout))
        self.assertEqual(price(layout, {}), price(layout))
        for name in parts:
            for weight in (0, 1, 2, 10 ** 6):
                self.assertEqual(price(layout, {name: weight}), sum(parts.values()) + (weight - 1) * parts[name])
        weights = {"h": 10 ** 6, "main": 0, "g": 7}
        self.assertEqual(price(layout, weights), 10 ** 6 * parts["h"] + 7 * parts["g"] + parts["f"])
        self.assertEqual(weights, {"h": 10 ** 6, "main": 0, "g": 7})

    def test_wrong_weights(self):
        layout = Layout(nest())
        wrong = [value for value in any_values() if value is not None and value != {}]
        for value in any_values():
            if not (isinstance(value, int) and not isinstance(value, bool) and 0 <= value <= 10 ** 6):
                wrong += [{"f": value}, {"main": 1, "g": value}]
            if not isinstance(value, (list, dict)) and not isinstance(value, tuple):
                try:
                    wrong.append({value: 1})
                except TypeError:
                    pass
        wrong += [{"u": 1}, {"nobody": 1}, {"a": 1}, {"f": 1, "u": 1}, {"f": -1}, {"f": 10 ** 6 + 1}, {"f": True},
            {"f": False}, {"f": None}, {"f": "1"}, {("f",): 1}, {(): 1}, {None: 1}, {0: 1}, {True: 1}, [("f", 1)]]
        for value in wrong:
            with self.assertRaises(InvalidWeights) as caught:
                price(layout, value)
            self.assertIs(caught.exception.value, value)


class PaidTest(unittest.TestCase):
    def test_a_small_world(self):
        program = pair()
        both = Layout(program, bundles=[["a", "b"]])
        # Main is entered with a bundle of two, and gives f and g, each with a unit; f shows a.
        self.assertEqual(paid(both, [(0, (), (), (), ())]), 4)
        self.assertEqual(paid(both, [(0, (), (), (0,), ()), (1, (), (), (), ())]), 6)
        self.assertEqual(paid(both, [(0, (), (), (0,), ())] * 3), 12)
        self.assertEqual(paid(Layout.flat(program), [(0, (), (), (0,), ()), (1, (), (), (), ())]), 3)

    def test_only_the_chosen_list_counts(self):
        program = Program(Function("main", numbers=["n"], functions=[Function("f", body=[Show("n")])],
            body=[Either([Show("n"), Show("n")], [Call("f", [])])]))
        layout = Layout(program)
        self.assertEqual(paid(layout, [(0, (), (0,), (), ())]), 1 + 2)
        self.assertEqual(paid(layout, [(0, (), (1,), (), ())]), 1 + 1 + 2)

    def test_wrong_worlds(self):
        layout = Layout(pair())
        for value in any_values():
            with self.assertRaises(InvalidWorld) as caught:
                paid(layout, value)
            self.assertEqual(caught.exception.index, -1 if not value or not isinstance(value, (list, tuple)) else 0)
        for value in any_values():
            with self.assertRaises(InvalidWorld) as caught:
                paid(layout, [(0, (), (), (), ()), value])
            self.assertEqual(vars(caught.exception), {"index": 1})
        with self.assertRaises(InvalidWorld) as caught:
            paid(layout, [(0, (), (), (), ()), (0, (), (), (2,), ())])
        self.assertEqual(vars(caught.exception), {"index": 1})

    def test_long_worlds(self):
        f = Function("f", body=[Show("n"), Either([Call("f", [])], [])])
        program = Program(Function("main", numbers=["n"], functions=[f], body=[Call("f", [])]))
        layout = Layout(program)
        most = (MOMENTS - 7) // 5
        calls = most + 1
        # A cell, and a call of f by main; each entry of f shows n, and calls but at last.
        self.assertEqual(paid(layout, [(0, (), (0,) * most + (1,), (), ())]), 1 + 1 + calls * 2 + (calls - 1))
        with self.assertRaises(TooLong) as caught:
            paid(layout, [(0, (), (0,) * (most + 2) + (1,), (), ())])
        self.assertEqual(vars(caught.exception), {"limit": MOMENTS})


class ByPlainMeansTest(unittest.TestCase):
    def test_many_layouts(self):
        worlds = 0
        for at, program in enumerate(programs(250)):
            chance = random.Random(at)
            for layout in (made_layout(chance, program), Layout.flat(program), Layout.chained(program)):
                priced = Priced(program, *layout.choice())
                for name in program.used:
                    for variable in program.uses(name):
                        self.assertEqual(way_of(layout, name, variable), priced.way(name, variable))
                    self.assertEqual(entry_price(layout, name), priced.entry(name))
                    self.assertEqual(statement_prices(layout, name), priced.statements(name))
                weights = {name: chance.choice([0, 1, 2, 10 ** 6]) for name in program.used if chance.random() < 0.6}
                self.assertEqual(price(layout), priced.price({}))
                self.assertEqual(price(layout, weights), priced.price(weights))
                world = made_world(chance, program, 3)
                if world:
                    worlds += 1
                    self.assertEqual(paid(layout, world), priced.paid(world))
        self.assertGreater(worlds, 200)

    def test_prices_are_what_worlds_pay(self):
        # Without Eithers, each function is entered as often as its weight tells.
        h = Function("h", body=[Show("a"), Add("n", 1)])
        g = Function("g", ["x"], functions=[], body=[Call("h", []), Call("h", []), Show("x")])
        program = Program(Function("main", ["a"], things=["b"], numbers=["n"], functions=[g, h],
            body=[Call("g", ["a"]), Call("h", []), Call("g", ["b"])]))
        for at in range(20):
            layout = made_layout(random.Random(at), program)
            self.assertEqual(paid(layout, [(0, (1,), (), (), ())]), price(layout, {"g": 2, "h": 5}))
            self.assertEqual(paid(layout, [(0, (1,), (), (), ())] * 2), price(layout, {"main": 2, "g": 4, "h": 10}))


class PlainKeepersTest(unittest.TestCase):
    def test_equal_layouts_may_have_unlike_prices(self):
        one, other = Layout(pair()), Layout(pair(), linked=["f", "g"])
        self.assertEqual(one, other)
        self.assertEqual(Plain(pair()), one)
        one, other = Layout(pair(), opened=["f"]), Layout(pair(), linked=["f"])
        self.assertEqual(one, other)
        self.assertEqual([price(one, {"f": 5, "g": 0}), price(other, {"f": 5, "g": 0})], [7, 7])
        self.assertEqual([entry_price(one, "f"), entry_price(other, "f")], [1, 0])


if __name__ == "__main__":
    unittest.main()
