"""All examples of the document, as they stand there, one behind the other."""

import unittest

import heldby.changes
import heldby.comparing
import heldby.desks
import heldby.errors
import heldby.growth
import heldby.keepers
import heldby.layouts
import heldby.prices
import heldby.programs
import heldby.reading
import heldby.runs
import heldby.sessions
import heldby.statements
import heldby.texts
import heldby.worlds

MODULES = [heldby.changes, heldby.comparing, heldby.desks, heldby.errors, heldby.growth, heldby.keepers, heldby.layouts,
    heldby.prices, heldby.programs, heldby.reading, heldby.runs, heldby.sessions, heldby.statements, heldby.texts,
        heldby.worlds]

# Each example is what is done and what it is to be: a value as Python writes it, or an error.
EXAMPLES = [
    ('program = read_program("function main\\n  things a b\\n  function f x\\n    show a\\n  call f b\\n  give f")',
        None),
    ('[program.functions, program.needs("f"), program.captured("main"), program.chain("f"), len(program)]',
     "[('main', 'f'), ('a',), ('a',), ('main', 'f'), 2]"),
    ('Program(Function("main", functions=[Function("f")], body=[Call("f", ["a"])]))', "raises UnknownName('a')"),
    ("plain = Plain(program)", None),
    ('[plain.closure("f"), [plain.frame("main", point) for point in points(program, "main")]]',
     "[('a',), [('a', 'b'), ('a',), ()]]"),
    ('less = Told(program, {"f": ["a"]}, {})', None),
    ('[(less & plain) == less, (less | plain) == plain, less.frame("main", ())]', "[True, True, ()]"),
    ('pair = read_program("function main\\n  things a b\\n  function f\\n    show a\\n  function g\\n    show b\\n'
     '  give f\\n  give g")', None),
    ('both = Layout(pair, bundles=[["a", "b"]])', None),
    ('[both.units("f"), both.closure("f"), both.frame("main", (0,)), Layout.flat(pair).frame("main", (0,))]',
     "[(('bundle', ('a', 'b')),), ('a', 'b'), ('a', 'b'), ('b',)]"),
    ("[Layout.flat(pair).refines(both), both.unbundled(0).choice(), Layout.flat(pair) == Plain(pair)]",
     "[True, ((), (), ()), True]"),
    ("world = [(0, (), (), (0,), ()), (1, (), (), (), (1,))]", None),
    ("[shows_of(pair, world), kept_at(both, world[:1], None), kept_at(Plain(pair), world[:1], None), "
     "kept_at(both, world, None)]", "[[[], [('a', -1)]], (-2, -1), (-1,), ()]"),
    ("stack_at(pair, world, 0)", "[('f', (), {'a': -1, 'b': -2})]"),
    ("[keeps_no_more(both, Plain(pair)), keeps_no_more(Plain(pair), both), compared(both, Plain(pair))[0]]",
     "[False, True, 'world']"),
    ('is_compared(both, Plain(pair), ("world", world[:1], None, -2))', "True"),
    ("[growth(both, Plain(pair)), growth(Plain(pair), both), grown(both, Plain(pair))[:2]]", "[1, 0, ('most', 1)]"),
    ('turning = Program(Function("main", ["a"], functions=[Function("f", ["x"], things=["y"], '
     'body=[Either([Call("f", ["y"])], [])])], body=[Call("f", ["a"])]))', None),
    ('late = Told(turning, {}, {("f", (0, 0, 0)): ["x"]})', None),
    ("[growth(late, Plain(turning)), grown(late, Plain(turning))[0], growth(Plain(turning), late)]",
        "[None, 'round', 1]"),
    ('[price(both), price(Layout.flat(pair)), way_of(both, "f", "a"), family_size(pair), least_price(pair)]',
     "[8, 4, 2, 32, 4]"),
    ('[mends(both), price(both, {"main": 0, "g": 3})]', "[[('split', ('a', 'b'))], 8]"),
    ('program = read_program("function main\\n  things a b\\n  function f x\\n    show a\\n  call f b\\n  give f")',
        None),
    ("keeper_table(Plain(program), Layout.chained(program))", repr("""function main  | a b   | a b
  things a b   |       |
  function f x | [a] a | [a] a
    show a     |       |
  call f b     | a     | a
  give f       |       |""")),
    ('read_program("function main\\n  either\\n    show a\\n  or")', "raises Unreadable(4)"),
    ('read_program("function main\\n  show a\\n  things a")', "raises Unreadable(2)"),
    ('read_keeper(program, "keeper\\nframe main 0 a\\nclosure f a")', "raises Unreadable(2)"),
    ('program = read_program("function main\\n  things a b\\n  function f x\\n    show a\\n  function g\\n    show b\\n'
     '  call f b\\n  give f\\n  give g")', None),
    ("desk = Desk(Session(program))", None),
    ('[desk("price"), desk("bundle a b"), desk("closure f"), desk("growth"), desk("mends")]',
     "['5', 'ok', 'a b', '1', 'split a b']"),
    ('[desk("mend"), desk("layout"), desk("undo"), desk.session.redoable, desk("try weigh f 0"), desk("layout")]',
     "['split a b', 'layout\\nopened f g', 'ok', 1, 'ok', 'layout\\nbundle a b\\nopened f g']"),
]


class DocumentTest(unittest.TestCase):
    def test_examples(self):
        names = {name: value for module in MODULES for name, value in vars(module).items() if not name.startswith("_")}
        for done, want in EXAMPLES:
            with self.subTest(done):
                if want is None:
                    exec(done, names)
                elif want.startswith("raises "):
                    told = want.removeprefix("raises ")
                    kind = names[told.split("(")[0]]
                    with self.assertRaises(kind) as caught:
                        eval(done, names)
                    self.assertEqual(f"{kind.__name__}({', '.join(map(repr, vars(caught.exception).values()))})", told)
                else:
                    self.assertEqual(repr(eval(done, names)), want)


if __name__ == "__main__":
    unittest.main()
