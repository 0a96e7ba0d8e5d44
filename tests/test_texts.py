import random
import unittest

from heldby.errors import OtherProgram, OutOfRange, UnknownName, UnknownPoint
from heldby.keepers import Plain, Told, points
from heldby.layouts import Layout
from heldby.programs import Program
from heldby.reading import read_program
from heldby.statements import Add, Call, Either, Function, Give, Show
from heldby.texts import keeper_table, line_of, point_at, write_keeper, write_layout, write_program, write_world
from tests.makers import made_keeper, made_layout, made_world, programs
from tests.plain_texts import text_of
from tests.samples import any_values, unknown_points

SAMPLE = """function main a
  things z b
  numbers n
  function f x
    things w
    function g
      show x
      add n 1000
    either
      call f w
    or
      either
      or
        give g
        show w
      end
    end
    call g
  function u p q
    either
      call u p p
    or
    end
  call f a
  give f"""


def sample():
    g = Function("g", body=[Show("x"), Add("n", 1000)])
    body = [Either([Call("f", ["w"])], [Either([], [Give("g"), Show("w")])]), Call("g", [])]
    f = Function("f", ["x"], things=["w"], functions=[g], body=body)
    u = Function("u", ["p", "q"], body=[Either([Call("u", ["p", "p"])], [])])
    return Program(Function("main", ["a"], things=["z", "b"], numbers=["n"], functions=[f, u],
        body=[Call("f", ["a"]), Give("f")]))


class WritingTest(unittest.TestCase):
    def test_programs(self):
        self.assertEqual(write_program(sample()), SAMPLE)
        self.assertEqual(write_program(program=Program(Function("main"))), "function main")
        self.assertEqual(write_program(Program(Function("m", ["a", "b"], numbers=["n"], body=[Add("n", 1)]))),
            "function m a b\n  numbers n\n  add n 1")
        for program in programs(60):
            self.assertEqual(write_program(program), text_of(program.main))

    def test_deep_programs(self):
        row = Show("a")
        for _ in range(59):
            row = Either([], [row])
        lines = write_program(Program(Function("main", ["a"], body=[row]))).split("\n")
        self.assertIn("  " * 60 + "show a", lines)
        self.assertEqual(len(lines), 1 + 59 * 3 + 1)

    def test_layouts(self):
        g, f = Function("g", body=[Show("b"), Show("y")]), Function("f", body=[Show("a"), Show("n")])
        k = Function("k", ["y", "x"], functions=[g], body=[Give("g"), Show("x")])
        program = Program(Function("main", ["b", "a"], numbers=["n"], functions=[k, f], body=[Give("f"), Give("k")]))
        self.assertEqual(write_layout(Layout(program)), "layout")
        self.assertEqual(write_layout(layout=Layout(program, linked=["f"])), "layout\nlinked f")
        self.assertEqual(write_layout(Layout(program, opened=["f", "k", "g"])), "layout\nopened k g f")
        self.assertEqual(write_layout(Layout(program, bundles=[["n", "b"]])), "layout\nbundle b n")
        self.assertEqual(write_layout(Layout(program, bundles=[["n", "a", "b"]], linked=["f", "g"], opened=["k"])),
            "layout\nbundle b a n\nlinked g f\nopened k")
        more = Program(Function("main", ["a", "b", "c", "d"], functions=[Function("f", body=[Show(x) for x in "abcd"])],
            body=[Give("f")]))
        self.assertEqual(write_layout(Layout(more, bundles=[["d", "b"], ["c", "a"]])), "layout\nbundle a c\nbundle b d")

    def test_keepers(self):
        program = sample()
        self.assertEqual(write_keeper(Told(program, {}, {})), "keeper")
        told = Told(program, {"u": ["b", "a"], "g": ["w", "a", "x"], "f": []}, {
            ("u", (0, 1)): ["q", "b"], ("g", (1,)): ["x"], ("main", ()): ["z", "a"], ("f", (0, 1, 0, 1, 0)): ["w"],
            ("f", (0,)): ["b"], ("f", ()): ["b"], ("f", (0, 0)): ["b"], ("f", (1,)): ["x", "b"], ("main", (1,)): [],
        })
        self.assertEqual(write_keeper(keeper=told), """keeper
closure g a w x
closure u a b
frame main entry a z
frame f entry b
frame f 0 b
frame f 0.0 b
frame f 0.1.0.1.0 w
frame f 1 b x
frame g 1 x
frame u 0.1 b q""")
        self.assertEqual(write_keeper(Plain(Program(Function("main", ["b", "a"], body=[Show("b"), Show("a")])))),
            "keeper\nframe main entry a b\nframe main 0 a")

    def test_worlds(self):
        self.assertEqual(write_world([]), "world")
        self.assertEqual(write_world(world=[(0, (), (), (), ())]), "world\nturn 0")
        self.assertEqual(write_world([(12, (0, 10 ** 30, 7), (1, 0), (0, 11), (3,)), (0, (), (), (5,), ()),
            (3, (1,), (), (), (1, 2)), (4, (), (0,), (), ())]), """world
turn 12 0 1000000000000000000000000000000 7
  choices 1 0
  takes 0 11
  drops 3
turn 0
  takes 5
turn 3 1
  drops 1 2
turn 4
  choices 0""")

    def test_arguments_stay(self):
        world = [(0, (1,), (0,), (), ())]
        write_world(world)
        self.assertEqual(world, [(0, (1,), (0,), (), ())])


class LinesTest(unittest.TestCase):
    def test_lines_of_points(self):
        want = {
            ("main", ()): 0, ("f", ()): 3, ("g", ()): 5, ("g", (0,)): 6, ("g", (1,)): 7, ("f", (0, 0)): 8,
            ("f", (0, 0, 0)): 9, ("f", (0, 1)): 10, ("f", (0, 1, 0, 0)): 11, ("f", (0, 1, 0, 1)): 12,
            ("f", (0, 1, 0, 1, 0)): 13, ("f", (0, 1, 0, 1, 1)): 14, ("f", (0, 1, 0)): 15, ("f", (0,)): 16,
                ("f", (1,)): 17,
            ("u", ()): 18, ("u", (0, 0)): 19, ("u", (0, 0, 0)): 20, ("u", (0, 1)): 21, ("u", (0,)): 22,
            ("main", (0,)): 23, ("main", (1,)): 24,
        }
        program = sample()
        for (name, point), number in want.items():
            self.assertEqual(line_of(program, name, point), number)
            self.assertEqual(point_at(program, number), (name, point))
        for number in (1, 2, 4):
            self.assertIsNone(point_at(program, number))
        self.assertEqual(line_of(program=program, name="f", point=(1,)), 17)
        self.assertEqual(point_at(program=program, line=17), ("f", (1,)))

    def test_all_points_have_a_line(self):
        for program in programs(60):
            lines = write_program(program).split("\n")
            every = {(name, point) for name in program.functions for point in points(program, name)}
            found = [point_at(program, at) for at in range(len(lines))]
            self.assertEqual({row for row in found if row is not None}, every)
            self.assertEqual(len([row for row in found if row is not None]), len(every))
            for at, row in enumerate(found):
                word = lines[at].split()[0]
                if row is None:
                    self.assertIn(word, ("things", "numbers"))
                    continue
                self.assertEqual(line_of(program, *row), at)
                name, point = row
                if point == ():
                    self.assertEqual(lines[at].split()[:2], ["function", name])
                elif len(point) % 2 == 0:
                    self.assertEqual(word, ("either", "or")[point[-1]])
                else:
                    self.assertIn(word, ("show", "add", "call", "give", "end"))

    def test_wrong_values(self):
        program = sample()
        for value in [*any_values(), "nobody", "n"]:
            with self.assertRaises(UnknownName) as caught:
                line_of(program, value, None)
            self.assertIs(caught.exception.value, value)
        for name in program.functions:
            for value in unknown_points(points(program, name)):
                with self.assertRaises(UnknownPoint) as caught:
                    line_of(program, name, value)
                self.assertIs(caught.exception.value, value)
        for value in [*any_values(), -1, 25, 26, 10 ** 30, "3", (3,), True, False]:
            if isinstance(value, int) and not isinstance(value, bool) and 0 <= value < 25:
                continue
            with self.assertRaises(OutOfRange) as caught:
                point_at(program, value)
            self.assertIs(caught.exception.value, value)


class TableTest(unittest.TestCase):
    def test_example(self):
        program = read_program("function main\n  things a b\n  function f x\n    show a\n  call f b\n  give f")
        self.assertEqual(keeper_table(Plain(program), Layout.chained(program)), """function main  | a b   | a b
  things a b   |       |
  function f x | [a] a | [a] a
    show a     |       |
  call f b     | a     | a
  give f       |       |""")
        self.assertEqual(keeper_table(keeper=Plain(program)), """function main  | a b
  things a b   |
  function f x | [a] a
    show a     |
  call f b     | a
  give f       |""")

    def test_nothing_kept(self):
        program = sample()
        rows = keeper_table(Told(program, {}, {}), Told(program, {}, {})).split("\n")
        width = max(map(len, SAMPLE.split("\n")))
        for row, line in zip(rows, SAMPLE.split("\n")):
            cell = "[]" if "function" in row and "main" not in row else "  "
            self.assertEqual(row, f"{line.ljust(width)} | {cell} | {cell}".rstrip())
        alone = Program(Function("main"))
        self.assertEqual(keeper_table(Plain(alone)), "function main |")
        self.assertEqual(keeper_table(Plain(alone), Plain(alone), Plain(alone)), "function main |  |  |")

    def test_closures_and_entries(self):
        program = sample()
        one = Told(program, {"f": ["b", "a"], "g": ["x"]},
            {("f", ()): ["x", "a"], ("u", ()): ["p"], ("main", ()): ["b"],
            ("f", (0, 1, 0)): ["w"], ("f", (0, 1)): ["z"], ("f", (0,)): ["a", "x"], ("f", (0, 0)): ["w"]})
        rows = keeper_table(one).split("\n")
        cells = {at: row.split(" | ")[1] if " | " in row else "" for at, row in enumerate(rows)}
        self.assertEqual({at: cell for at, cell in cells.items() if cell}, {
            0: "b", 3: "[a b] a x", 5: "[x]", 8: "w", 10: "z", 15: "w", 16: "a x", 18: "[] p",
        })
        for row in rows:
            self.assertEqual(row, row.rstrip(" "))

    def plain_table(self, keepers):
        """Cells by the points in the lines."""
        program = keepers[0].program
        columns = [write_program(program).split("\n")]
        for keeper in keepers:
            cells = []
            for at in range(len(columns[0])):
                place = point_at(program, at)
                kept = " ".join(keeper.frame(*place)) if place else ""
                if place and place[1] == () and place[0] != program.functions[0]:
                    kept = f"[{' '.join(keeper.closure(place[0]))}] {kept}".rstrip()
                cells.append(kept)
            columns.append(cells)
        widths = [max(map(len, column)) for column in columns]
        return "\n".join(
            " | ".join(cell.ljust(width) for cell, width in zip(row, widths)).rstrip() for row in zip(*columns)
        )

    def test_many_keepers(self):
        for at, program in enumerate(programs(60)):
            chance = random.Random(at)
            keepers = [made_keeper(chance, program) for _ in range(chance.randint(1, 4))]
            self.assertEqual(keeper_table(*keepers), self.plain_table(keepers))

    def test_other_programs(self):
        one, other = Plain(sample()), Plain(Program(Function("main")))
        for keepers in ((one, other), (one, one, other), (other, one), (one, other, one)):
            with self.assertRaises(OtherProgram) as caught:
                keeper_table(*keepers)
            self.assertEqual(vars(caught.exception), {})
        self.assertEqual(keeper_table(one, Plain(sample())), keeper_table(one, one))


class EqualTextsTest(unittest.TestCase):
    def test_equal_objects_have_equal_texts(self):
        for at, program in enumerate(programs(40)):
            chance = random.Random(at)
            layout, keeper = made_layout(chance, program), made_keeper(chance, program)
            again = Layout(program, bundles=[row[::-1] for row in layout.bundles[::-1]], linked=layout.linked[::-1],
                opened=layout.opened[::-1] * 2)
            self.assertEqual(write_layout(again), write_layout(layout))
            self.assertEqual(write_keeper(layout), write_keeper(layout | layout))
            self.assertEqual(write_keeper(keeper), write_keeper(keeper & keeper))
            world = made_world(chance, program, 3)
            self.assertEqual(write_world(tuple(world)), write_world(world))


if __name__ == "__main__":
    unittest.main()
