"""What is made once for many layouts of a program: each is as if it were made alone, and the work is done once."""

import random
import unittest
from unittest import mock

from heldby import programs as heldby_programs, records
from heldby.errors import InvalidBundle, InvalidList, UnknownName
from heldby.growth import growth, grown
from heldby.keepers import Plain, points
from heldby.layouts import Layout
from heldby.prices import cheapest, coarsest, family, family_size, price
from heldby.programs import Program
from heldby.reading import read_program
from tests.makers import made_layout, made_told, programs

PROGRAM = """function main
  things a b d
  numbers n
  function f x
    show a
    add n 1
    show b
  function g y
    either
      show b
    or
      show a
    end
  function h
    show d
    show n
  call f b
  give f
  give g
  give h"""


def facts(layout):
    program = layout.program
    used = [
        (layout.wanted(name), layout.recorded(name), layout.units(name), [layout.reach(unit) for unit in
            layout.units(name)], layout.reach(("record", name))) for name in program.used
    ]
    kept = [(name, layout.closure(name), [layout.frame(name, point) for point in points(program, name)])
        for name in program.functions]
    return [layout.choice(), used, kept, price(layout)]


def alone(layout):
    """The facts of the layout when it is the only one of its program."""
    bundles, linked, opened = layout.choice()
    program = Program(layout.program.main)
    return facts(Layout(program, bundles=bundles, linked=linked, opened=opened))


def calls_of(target, name, call):
    """How often a function or a class of a module is called by a call, and what this returns."""
    with mock.patch.object(target, name, side_effect=getattr(target, name)) as counted:
        result = call()
    return counted.call_count, result


class LayoutsByTurnsTest(unittest.TestCase):
    def test_unlike_ones(self):
        for at, program in enumerate(programs(60, 3)):
            chance = random.Random(at)
            layouts = [made_layout(chance, program) for _ in range(6)]
            for layout in layouts:
                self.assertEqual(facts(layout), alone(layout))

    def test_alike_but_for_some_choices(self):
        for at, program in enumerate(programs(60, 3)):
            chance = random.Random(at)
            layout = made_layout(chance, program)
            rows = [(layout, alone(layout))]
            for _ in range(12):
                name = chance.choice(program.used[1:])
                make = chance.choice([layout.with_open, layout.with_open, layout.with_link])
                layout = make(name, chance.random() < 0.5)
                rows.append((layout, alone(layout)))
                if chance.random() < 0.3 and layout.bundles:
                    layout = layout.unbundled(0)
            for made, want in rows:
                self.assertEqual(facts(made), want)

    def test_other_layouts_and_errors_between(self):
        program = read_program(PROGRAM)
        want = alone(Layout(program, bundles=[["a", "b"]], linked=["f"]))
        for wrong in ({"bundles": 1}, {"bundles": [["a", "b"], ["b", "c"]], "linked": ["f"]}, {"linked": "f"},
            {"linked": ["x"]}, {"opened": None}, {"opened": ["main"]}):
            first = Layout(program, bundles=[["b", "a"]], linked=["f", "f"])
            with self.assertRaises((InvalidBundle, InvalidList, UnknownName)):
                Layout(program, **wrong)
            second = Layout(program, bundles=[["a", "b"]], linked=("f",))
            Layout.flat(program)
            self.assertEqual([facts(first), facts(second)], [want, want])

    def test_only_the_last_records_are_held(self):
        program = read_program(PROGRAM)
        for names in ("f", "g", "fg", "h", "fh"):
            for opened in ("f", "gh"):
                Layout(program, linked=list(names), opened=list(opened))
                self.assertEqual(list(program.last_records), [((), tuple(names))])

    def test_equal_bundles_of_other_programs(self):
        one = read_program(PROGRAM)
        other = read_program(PROGRAM.replace("    show d\n", "    show d\n    show a\n"))
        for _ in range(2):
            for program in (one, other):
                layout = Layout(program, bundles=[["a", "d"]], linked=["h"], opened=["h"])
                self.assertEqual(facts(layout), alone(layout))

    def test_keepers_made_of_layouts(self):
        for at, program in enumerate(programs(30, 3)):
            chance = random.Random(at)
            layout = made_layout(chance, program)
            want = facts(layout)
            for keeper in (Plain(program), made_told(chance, program, 0.5), layout.with_open(program.used[1], True)):
                for made in (layout & keeper, layout | keeper, keeper & layout, keeper | layout):
                    self.assertEqual(made.program, program)
            self.assertEqual([facts(layout), alone(layout)], [want, want])


class FamilyTest(unittest.TestCase):
    def test_each_layout_is_as_made_alone(self):
        seen = 0
        for program in [row for row in programs(80, 2) if 1 < family_size(row) <= 64]:
            for layout in family(program):
                self.assertIs(type(layout), Layout)
                self.assertEqual(facts(layout), alone(layout))
                seen += 1
        self.assertGreater(seen, 300)

    def test_layouts_between(self):
        program = read_program(PROGRAM)
        chance = random.Random(1)
        wanted = [layout.choice() for layout in family(Program(program.main))][:200]
        found = []
        for layout in family(program):
            if len(found) == 200:
                break
            found.append(layout.choice())
            made_layout(chance, program)
            self.assertEqual(facts(layout), alone(layout))
        self.assertEqual(found, wanted)

    def test_the_order(self):
        program = read_program(PROGRAM)
        orders = [[layout.choice() for layout in family(Program(program.main))] for _ in range(2)]
        self.assertEqual(orders[0], orders[1])
        self.assertEqual(len(set(orders[0])), family_size(program))

    def test_work_once(self):
        program = read_program(PROGRAM)
        self.assertEqual(family_size(program), 15 * 4 ** 3)
        many, layouts = calls_of(records, "Records", lambda: list(family(program)))
        # Some are made to tell which functions have items.
        self.assertLessEqual(many, 15 * 2 ** 3 + 3)
        self.assertEqual(len(layouts), 15 * 4 ** 3)
        for call in (cheapest, coarsest):
            self.assertLessEqual(calls_of(records, "Records", lambda call=call: call(program))[0], 15 * 2 ** 3 + 5)


class ProgramsTest(unittest.TestCase):
    def test_bodies_are_looked_at_once(self):
        main = read_program(PROGRAM).main
        many, program = calls_of(heldby_programs, "Outline", lambda: Program(main))
        self.assertEqual([many, len(program)], [1, 4])
        many, _ = calls_of(heldby_programs, "places_of", lambda: Program(main))
        self.assertEqual(many, 4)

    def test_equal_growth_by_turns(self):
        for at, program in enumerate(programs(40, 3)):
            chance = random.Random(at)
            rows = [(made_layout(chance, program), made_told(chance, program, 0.3)) for _ in range(3)]
            first = [(growth(one, other), grown(one, other)) for one, other in rows]
            again = [(growth(one, other), grown(one, other)) for one, other in rows[::-1]]
            self.assertEqual(first, again[::-1])


if __name__ == "__main__":
    unittest.main()
