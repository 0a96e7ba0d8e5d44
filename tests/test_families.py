import itertools
import random
import time
import types
import unittest

from heldby.comparing import keeps_no_more
from heldby.errors import InvalidNumber, InvalidWeights, TooMany
from heldby.growth import growth
from heldby.keepers import Plain
from heldby.layouts import Layout
from heldby.limits import FAMILY
from heldby.prices import cheapest, coarsest, family, family_size, least_price, mends, price
from heldby.programs import Program
from heldby.statements import Add, Call, Either, Function, Give, Show
from tests import plain_prices, turners
from tests.makers import made_layout, programs
from tests.samples import any_values
from tests.test_grown import pair


def flat_program(things, numbers, functions):
    """Main with so many captured things and numbers, and functions that show some of them each."""
    names = [f"t{letter}" for letter in "abcdefghijkl"[:things]]
    counted = [f"n{letter * 2}" for letter in "abcdefghij"[:numbers]]
    made = [Function(f"f{letter}", body=[Show(name) for name in (names + counted)[at::max(functions, 1)]])
        for at, letter in enumerate("abcdefgh"[:functions])]
    return Program(Function("main", things=names, numbers=counted, functions=made,
        body=[Give(function.name) for function in made]))


def small_families(many, most):
    """Programs of some families that are not too great, and with more than a layout."""
    return [program for program in programs(many, 2) if 1 < family_size(program) <= most]


def sharers(many):
    """Programs whose main has things and numbers that few functions share."""
    found = []
    for seed in range(many):
        chance = random.Random(seed)
        things, numbers = ["a", "b", "c"][:chance.randint(1, 3)], ["n", "m"][:chance.randint(0, 2)]
        functions, body = [], []
        for name in "fg"[:1 if len(things + numbers) > 4 else 2]:
            rows = [Show(x) for x in things + numbers if chance.random() < 0.6]
            rows += [Add(n, 1) for n in numbers if chance.random() < 0.2]
            chance.shuffle(rows)
            if chance.random() < 0.3:
                rows = [Either(rows, [Show(chance.choice(things))])]
            if chance.random() < 0.3 and functions:
                rows.insert(chance.randint(0, len(rows)), Give("f"))
            functions.append(Function(name, body=rows))
            body.append(chance.choice([Give(name), Call(name, [])]))
        body += [Show(x) for x in things + numbers if chance.random() < 0.3]
        chance.shuffle(body)
        found.append(Program(Function("main", things[:1], things=things[1:], numbers=numbers, functions=functions,
            body=body)))
    return [program for program in found if 1 < family_size(program) <= 250]


class SizesTest(unittest.TestCase):
    def test_captured_variables(self):
        sizes = [1, 1, 2, 5, 15, 52, 203, 877, 4140, 21147, 115975, 678570, 4213597]
        for things in range(13):
            self.assertEqual(family_size(flat_program(things, 0, 1)), sizes[things] * (4 if things else 1))
        for numbers in range(11):
            self.assertEqual(family_size(flat_program(0, numbers, 1)), sizes[numbers] * (4 if numbers else 1))
        self.assertEqual(family_size(flat_program(2, 1, 1)), 5 * 4)

    def test_functions_with_items(self):
        for functions in range(1, 7):
            self.assertEqual(family_size(flat_program(6, 0, functions)), 203 * 4 ** functions)
        # Those that have none are not counted, and neither are those that are not used.
        empty = Function("g", ["x"], body=[Show("x")])
        unused = Function("h", body=[Show("a")])
        f = Function("f", body=[Show("a")])
        program = Program(Function("main", ["a"], functions=[empty, unused, f], body=[Give("g"), Give("f")]))
        self.assertEqual(family_size(program), 4)
        for layout in family(program):
            self.assertNotIn("g", layout.linked + layout.opened)

    def test_items_that_a_function_only_passes_on(self):
        h = Function("h", body=[Show("a")])
        g = Function("g", functions=[h], body=[Give("h")])
        program = Program(Function("main", ["a"], functions=[g], body=[Give("g")]))
        self.assertEqual(family_size(program), 16)

    def test_far_more_than_can_be_listed(self):
        numbers = [f"n{a}{b}" for a in "abcd" for b in "abcdefghijk"]
        f = Function("f", body=[Show(name) for name in numbers])
        program = Program(Function("main", numbers=numbers, functions=[f], body=[Give("f")]))
        began = time.perf_counter()
        self.assertEqual(family_size(program), 4 * self.bell(44))
        for call in (lambda: next(family(program)), lambda: cheapest(program), lambda: coarsest(program),
            lambda: least_price(program)):
            with self.assertRaises(TooMany) as caught:
                call()
            self.assertEqual(vars(caught.exception), {"limit": FAMILY})
        self.assertLess(time.perf_counter() - began, 5)

    def bell(self, many):
        """By another rule: each partition of n + 1 has a part with the last one and k others."""
        found = [1]
        for size in range(many):
            choose, total = 1, 0
            for other in range(size + 1):
                total += choose * found[other]
                choose = choose * (size - other) // (other + 1)
            found.append(total)
        return found[many]

    def test_example(self):
        self.assertEqual(family_size(pair()), 32)
        self.assertEqual(family_size(program=pair()), 32)


class FamilyTest(unittest.TestCase):
    def test_all_choices_once(self):
        for program in [pair(), flat_program(3, 1, 2), *small_families(80, 600)]:
            layouts = list(family(program))
            self.assertEqual(len(layouts), family_size(program))
            found = [plain_prices.as_sets(layout) for layout in layouts]
            self.assertEqual(len(set(found)), len(found))
            self.assertEqual(set(found), plain_prices.choices(program))
            self.assertTrue(all(type(layout) is Layout and layout.program == program for layout in layouts))
            self.assertEqual([layout.choice() for layout in layouts], [layout.choice() for layout in family(program)])

    def test_a_generator(self):
        self.assertIsInstance(family(pair()), types.GeneratorType)
        self.assertIsInstance(family(program=pair()), types.GeneratorType)

    def test_too_many(self):
        self.assertEqual(FAMILY, 1500)
        begun = family(flat_program(8, 0, 1))
        for program, many in ((flat_program(5, 0, 2), 832), (flat_program(4, 0, 3), 960)):
            self.assertEqual(family_size(program), many)
            self.assertEqual(len(list(family(program))), many)
        with self.assertRaises(TooMany) as caught:
            next(begun)
        self.assertEqual(vars(caught.exception), {"limit": FAMILY})

    def sized(self, captured):
        """Functions with so many captured variables and an inner one each."""
        functions = [Function(f"f{letter}", [f"{letter}{other}" for other in "xyz"[:many]],
            functions=[Function(f"g{letter}", body=[Show(f"{letter}{other}") for other in "xyz"[:many]])],
            body=[Give(f"g{letter}")]) for letter, many in zip("abcd", captured)]
        return Program(Function("main", functions=functions, body=[Give(function.name) for function in functions]))

    def test_near_the_limit(self):
        for captured, many in (((3, 3), 25 * 16), ((3, 3, 3), 125 * 64), ((2, 2, 2), 8 * 64), ((3, 2, 2), 20 * 64),
            ((1, 1, 1, 1), 256), ((2, 2, 1, 1), 1024), ((3, 1, 1, 1), 1280), ((2, 2, 2, 1), 2048)):
            program = self.sized(captured)
            self.assertEqual(family_size(program), many)
            if many <= FAMILY:
                self.assertEqual(len({layout.choice() for layout in family(program)}), many)
            else:
                with self.assertRaises(TooMany):
                    next(family(program))


class CheapestTest(unittest.TestCase):
    def rows(self, program):
        """Tuples (choice, Priced, growth beside Plain) of all layouts of the family."""
        plain = Plain(program)
        return [
            (plain_prices.as_sets(layout), plain_prices.Priced(program, *layout.choice()), growth(layout, plain))
            for layout in plain_prices.layouts(program)
        ]

    def check(self, program, rows, weights, most):
        """Against all layouts of the family."""
        allowed = {
            choice: priced.price(weights or {}) for choice, priced, many in rows
            if most is None or (many is not None and many <= most)
        }
        least = min(allowed.values())
        found = cheapest(program, weights, most=most)
        self.assertIsInstance(found, Layout)
        self.assertEqual(allowed[plain_prices.as_sets(found)], least)
        self.assertEqual(price(found, weights), least)
        return least

    def test_example(self):
        self.assertEqual(least_price(pair()), 4)
        for most in (0, 1, 2, 100, None):
            self.check(pair(), self.rows(pair()), None, most)
            self.assertEqual(least_price(pair(), most=most), 4)

    def test_small_families(self):
        unlike = 0
        for at, program in enumerate([*small_families(70, 90), *sharers(40)]):
            chance = random.Random(at)
            weights = {name: chance.choice([0, 0, 1, 2, 9, 10 ** 6]) for name in program.used if chance.random() < 0.7}
            rows = self.rows(program)
            for given in (None, weights):
                found = [self.check(program, rows, given, most) for most in (0, 1, 2, 100, None)]
                self.assertEqual(found[at % 4], least_price(program, given, most=(0, 1, 2, 100)[at % 4]))
                self.assertEqual(found, sorted(found, reverse=True))
                unlike += len(set(found)) > 1
        self.assertGreater(unlike, 10)

    def leaking(self):
        """k gives g often, which holds all of a, b and c, and shows one behind the other."""
        g = Function("g", body=[Show("a"), Show("b"), Show("c")])
        k = Function("k", body=[Give("g")] * 5)
        return Program(Function("main", ["a", "b", "c"], functions=[g, k], body=[Call("k", []), Show("b")]))

    def test_most(self):
        program = self.leaking()
        rows = self.rows(program)
        found = [self.check(program, rows, {"main": 0}, most) for most in (0, 1, 2, 3, 100, None)]
        self.assertEqual(found, sorted(found, reverse=True))
        self.assertGreater(len(set(found)), 2, found)
        self.assertEqual(found, [least_price(program, {"main": 0}, most=most) for most in (0, 1, 2, 3, 100, None)])

    def test_defaults_and_names_of_arguments(self):
        program = self.leaking()
        for weights in (None, {}, {"k": 3}):
            self.assertEqual(price(cheapest(program, weights), weights), least_price(program, weights, most=0))
            self.assertEqual(least_price(program=program, weights=weights, most=1),
                least_price(program, weights, most=1))
            self.assertEqual(cheapest(program=program, weights=weights, most=None).choice(),
                cheapest(program, weights, most=None).choice())
        with self.assertRaises(TypeError):
            cheapest(program, None, 0)
        with self.assertRaises(TypeError):
            least_price(program, None, 0)

    def test_the_growth_is_at_most_the_number(self):
        for program in small_families(60, 200):
            for most in (0, 1, 2):
                self.assertLessEqual(growth(cheapest(program, most=most), Plain(program)), most)

    def test_wrong_weights_and_numbers(self):
        huge = flat_program(8, 0, 1)
        for program in (pair(), huge):
            for call in (cheapest, least_price):
                for weights in (5, [], {"f": True}, {"nobody": 1}, {None: 0}, {"f": 10 ** 6 + 1}):
                    for most in (0, None, -1, "a"):
                        with self.assertRaises(InvalidWeights) as caught:
                            call(program, weights, most=most)
                        self.assertIs(caught.exception.value, weights)
                for most in [*any_values(), 101, 10 ** 6]:
                    if most is None or isinstance(most, int) and not isinstance(most, bool) and 0 <= most <= 100:
                        continue
                    with self.assertRaises(InvalidNumber) as caught:
                        call(program, {}, most=most)
                    self.assertIs(caught.exception.value, most)
        for most in (0, 1, 100, None):
            for call in (cheapest, least_price):
                with self.assertRaises(TooMany) as caught:
                    call(huge, most=most)
                self.assertEqual(vars(caught.exception), {"limit": FAMILY})

    def test_nothing_is_counted_where_nothing_may_be_too_much(self):
        # There are more stands than the growth may have, but whether a layout keeps no more is known all the same.
        f = turners.mixing("f", 8)
        f = Function("f", f.parameters, body=[*f.body, Show("a"), Show("b")])
        program = Program(Function("main", ["a", "b"], functions=[f], body=[Give("f")] * 6))
        for layout in family(program):
            with self.assertRaises(TooMany):
                growth(layout, Plain(program))
        weights = {"f": 0}
        rows = [(price(layout, weights), keeps_no_more(layout, Plain(program))) for layout in family(program)]
        least = min(cost for cost, is_safe in rows if is_safe)
        self.assertEqual((least, least_price(program, weights), min(rows)[0]), (12, 12, 8))
        self.assertTrue(keeps_no_more(cheapest(program, weights), Plain(program)))
        self.assertEqual(least_price(program, weights, most=None), 8)
        self.assertTrue(coarsest(program) and isinstance(mends(Layout.chained(program)), list))

    def test_given_weights_stay(self):
        weights = {"k": 3, "g": 0}
        cheapest(self.leaking(), weights, most=1)
        least_price(self.leaking(), weights)
        self.assertEqual(list(weights.items()), [("k", 3), ("g", 0)])


class MendsTest(unittest.TestCase):
    def plain_mends(self, layout):
        program, plain = layout.program, Plain(layout.program)
        if keeps_no_more(layout, plain):
            return []
        bundles, linked, opened = layout.choice()
        found = []
        for bundle in bundles:
            rest = [other for other in bundles if other != bundle]
            found.append((("split", bundle), Layout(program, bundles=rest, linked=linked, opened=opened)))
        for name in program.used:
            if name in linked:
                rest = [other for other in linked if other != name]
                found.append((("unlink", name), Layout(program, bundles=bundles, linked=rest, opened=opened)))
        for name in program.used[1:]:
            if name not in opened:
                found.append((("open", name), Layout(program, bundles=bundles, linked=linked, opened=[*opened, name])))
        return [change for change, changed in found if keeps_no_more(changed, plain)]

    def test_example(self):
        both = Layout(pair(), bundles=[["a", "b"]])
        self.assertEqual(mends(both), [("split", ("a", "b"))])
        self.assertEqual(mends(layout=both.unbundled(0)), [])
        self.assertEqual(mends(Layout.flat(pair())), [])

    def changed(self, chance, layout):
        """A layout with one or two choices more."""
        program = layout.program
        for _ in range(chance.randint(1, 2)):
            name = chance.choice(program.used[1:])
            captured = [x for f in program.used for x in program.captured(f) if len(program.captured(f)) > 1]
            kind = chance.choice(["link", "shut", "join"])
            if kind == "link":
                layout = layout.with_link(name, True)
            if kind == "shut":
                layout = layout.with_open(name, False)
            if kind == "join" and captured:
                one = chance.choice(captured)
                owner = next(f for f in program.used if one in program.captured(f))
                layout = layout.joined(one, chance.choice(program.captured(owner)))
        return layout

    def test_many_layouts(self):
        kinds = {}
        for at, program in enumerate([*programs(150, 2), *sharers(150)]):
            chance = random.Random(at)
            near = cheapest(program, most=None) if family_size(program) < 100 else Layout.chained(program)
            for layout in (made_layout(chance, program), near, self.changed(chance, Layout.flat(program))):
                found = mends(layout)
                self.assertEqual(found, self.plain_mends(layout))
                self.assertIsInstance(found, list)
                for word, _ in found:
                    kinds[word] = kinds.get(word, 0) + 1
                kinds[len(found)] = kinds.get(len(found), 0) + 1
        for word in ("split", "unlink", "open"):
            self.assertGreater(kinds[word], 0)
        self.assertGreater(min(kinds[0], kinds[1]), 10)

    def test_no_single_change(self):
        # Two bundles keep too much, each by itself.
        f = Function("f", body=[Show("a"), Show("c")])
        g = Function("g", body=[Show("b"), Show("d")])
        program = Program(Function("main", ["a", "b", "c", "d"], functions=[f, g], body=[Give("f"), Give("g")]))
        layout = Layout(program, bundles=[["a", "b"], ["c", "d"]], opened=["f", "g"])
        self.assertEqual(mends(layout), [])
        self.assertEqual(mends(layout.unbundled(0)), [("split", ("c", "d"))])
        # A bundle of three is taken apart as a whole.
        wide = Layout(program, bundles=[["c", "a", "b"]], opened=["g", "f"])
        self.assertEqual(mends(wide), [("split", ("a", "b", "c"))])

    def test_several_changes(self):
        # The closure of h keeps b by two links, either of which may be left out; g runs only while b is needed.
        h = Function("h", body=[Show("a")])
        g = Function("g", functions=[h], body=[Give("h")])
        f = Function("f", functions=[g], body=[Call("g", []), Show("b")])
        program = Program(Function("main", ["a", "b"], functions=[f], body=[Call("f", [])]))
        layout = Layout(program, linked=["h", "g"], opened=["f", "g", "h"])
        self.assertEqual(mends(layout), [("unlink", "g"), ("unlink", "h")])
        self.assertEqual(mends(layout.with_link("f", True)), [("unlink", "g"), ("unlink", "h")])
        self.assertEqual(mends(layout.with_open("h", False)), [("unlink", "g"), ("unlink", "h")])
        self.assertEqual(mends(layout), self.plain_mends(layout))

    def test_opening_and_unlinking(self):
        # f is not opened, so its record keeps a while it shows b.
        f = Function("f", body=[Show("a"), Show("b")])
        program = Program(Function("main", ["a", "b"], functions=[f], body=[Give("f")]))
        self.assertEqual(mends(Layout(program)), [("open", "f")])
        # A link to the record of g keeps what h does not need; so does the bundle of both.
        h = Function("h", body=[Show("a")])
        g = Function("g", functions=[h], body=[Give("h"), Show("b")])
        program = Program(Function("main", ["a", "b"], functions=[g], body=[Give("g")]))
        layout = Layout(program, linked=["h"], opened=["g", "h"])
        self.assertEqual(mends(layout), [("unlink", "h")])
        layout = Layout(program, bundles=[["a", "b"]], linked=["g"], opened=["g"])
        self.assertEqual(mends(layout), [("split", ("a", "b"))])
        # Each of several changes is enough by itself, and they come in the order of the text.
        f = Function("f", body=[Show("a"), Show("b")])
        program = Program(Function("main", ["b", "a"], functions=[f], body=[Call("f", []), Show("b"), Show("a")]))
        self.assertEqual(mends(Layout(program)), [])
        program = Program(Function("main", functions=[Function("g", ["b", "a"], functions=[f], body=[Give("f")])],
            body=[Give("g")]))
        self.assertEqual(mends(Layout(program, bundles=[["a", "b"]])), [])
        self.assertEqual(mends(Layout(program, bundles=[["a", "b"]], opened=["f"])), [("split", ("b", "a"))])


class CoarsestTest(unittest.TestCase):
    def plain_coarsest(self, program):
        plain = Plain(program)
        safe = [layout for layout in plain_prices.layouts(program) if keeps_no_more(layout, plain)]
        return {
            plain_prices.as_sets(one) for one in safe
            if not any(one.refines(other) and not other.refines(one) for other in safe)
        }

    def test_against_all_layouts(self):
        many = {}
        for program in [pair(), *small_families(60, 100), *sharers(60)]:
            found = coarsest(program)
            self.assertIsInstance(found, list)
            self.assertTrue(all(type(layout) is Layout for layout in found))
            sets = [plain_prices.as_sets(layout) for layout in found]
            self.assertEqual(len(set(sets)), len(sets))
            self.assertEqual(set(sets), self.plain_coarsest(program))
            many[len(sets)] = many.get(len(sets), 0) + 1
        self.assertGreater(min(many[1], many[2]), 1)

    def test_several(self):
        # The number n keeps nothing alive; it may lie beside a or beside c, but not beside both.
        f = Function("f", body=[Show("n"), Show("a"), Show("c")])
        g, h = Function("g", body=[Show("a")]), Function("h", body=[Show("c")])
        program = Program(Function("main", ["a", "c"], numbers=["n"], functions=[f, g, h],
            body=[Give("f"), Give("g"), Give("h")]))
        found = coarsest(program=program)
        self.assertEqual({layout.bundles for layout in found}, {(("a", "n"),), (("c", "n"),)})
        self.assertEqual([layout.linked for layout in found], [("f", "g", "h")] * 2)
        self.assertEqual({plain_prices.as_sets(layout) for layout in found}, self.plain_coarsest(program))

    def test_links(self):
        # Either link by itself keeps nothing too long, but both do.
        h = Function("h", body=[Show("a")])
        g = Function("g", functions=[h], body=[Give("h")])
        f = Function("f", functions=[g], body=[Call("g", []), Show("b")])
        program = Program(Function("main", ["a", "b"], functions=[f], body=[Call("f", [])]))
        found = coarsest(program)
        self.assertEqual({plain_prices.as_sets(layout) for layout in found}, self.plain_coarsest(program))
        self.assertEqual(sorted(layout.linked for layout in found), [("f", "g"), ("f", "h")])

    def test_too_many(self):
        with self.assertRaises(TooMany) as caught:
            coarsest(flat_program(8, 0, 1))
        self.assertEqual(vars(caught.exception), {"limit": FAMILY})


class FactsTest(unittest.TestCase):
    def test_a_layout_that_refines_another_one_keeps_no_more(self):
        for program in small_families(60, 60):
            layouts = list(family(program))
            chance = random.Random(len(layouts))
            for one, other in itertools.product(chance.sample(layouts, min(12, len(layouts))), repeat=2):
                if one.refines(other):
                    self.assertTrue(keeps_no_more(one, other))

    def test_main_promise(self):
        for program in small_families(60, 200):
            found = cheapest(program)
            self.assertTrue(keeps_no_more(found, Plain(program)))
            self.assertTrue(any(found.refines(layout) for layout in coarsest(program)))


class TimeTest(unittest.TestCase):
    def test_great_families(self):
        """Near the limits of the family, of statements and of functions."""
        things = ["a", "b", "c", "d"]
        numbers = ["n"]
        shows = [Show("a"), Either([Show("b"), Show("n")], [Add("n", 3)]), Show("c")]
        inner = [Function(f"f{letter}", [f"{letter}p"],
            body=[*shows, Show("d"), Show(f"{letter}p")]) for letter in "xy"]
        body = [Give("fx"), Call("fy", ["a"]), Either([Call("fx", ["b"])], [Give("fy")]), Show("d"), Show("n")]
        program = Program(Function("main", things[:2], things=things[2:], numbers=numbers, functions=inner, body=body))
        self.assertEqual(family_size(program), 52 * 16)
        nested = Function("g", ["q"], functions=[Function("h", ["r"], body=[Show("a"), Show("q"), Show("r")])],
            body=[Call("h", ["q"]), Give("h"), Show("b"), Either([Call("g", ["a"])], [])])
        deep = Program(Function("main", ["a"], things=["b", "c"], functions=[nested, Function("k", body=[Show("c")])],
            body=[Give("g"), Call("g", ["c"]), Call("k", [])]))
        self.assertEqual(family_size(deep), 5 * 4 ** 3)
        for program in (program, deep):
            began = time.perf_counter()
            for most in (0, 1, 3, None):
                cheapest(program, most=most)
            self.assertTrue(coarsest(program))
            self.assertLess(time.perf_counter() - began, 20)


if __name__ == "__main__":
    unittest.main()
