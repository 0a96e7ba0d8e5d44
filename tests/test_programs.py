import unittest

from heldby.errors import UnknownName
from heldby.programs import Program
from heldby.statements import Add, Call, Either, Function, Give, Show
from tests.samples import any_values, refusal


def told():
    """The program of the examples in the document."""
    f = Function("f", ["x"], body=[Show("a")])
    return Program(Function("main", things=["a", "b"], functions=[f], body=[Call("f", ["b"]), Give("f")]))


def large():
    """main calls f and gives k; f gives h; k calls f; l and what is in it are not used."""
    h = Function("h", ["ha"], body=[Add("fn", 2), Show("mb"), Show("ha")])
    g = Function("g", things=["gt"], functions=[Function("i", body=[Show("gt"), Show("fa")])], body=[Give("i")])
    f = Function("f", ["fb", "fa"], things=["fc"], numbers=["fn", "fm"], functions=[g, h],
                 body=[Either([Give("h")], [Show("fm"), Either([], [Call("k", ["fa", "mb"])])]), Show("fb")])
    k = Function("k", ["ka", "kb"], body=[Either([], [Call("f", ["ka", "ma"])]), Add("mn", 1), Show("kb")])
    m = Function("m", body=[Show("lt"), Show("mc"), Give("k")])
    l = Function("l", things=["lt"], numbers=["ln"], functions=[m], body=[Call("m", []), Give("f"), Add("ln", 3)])
    return Program(Function("main", ["mb", "mc"], things=["md", "ma"], numbers=["mm", "mn"], functions=[f, k, l],
                            body=[Call("f", ["md", "mb"]), Show("mm"), Either([], [Give("k")])]))


QUERIES = ("function", "parent", "chain", "variables", "chain_things", "uses", "needs", "captured")


class ExampleTest(unittest.TestCase):
    def test_examples(self):
        program = told()
        self.assertEqual(
            [program.functions, program.needs("f"), program.captured("main"), program.chain("f"), len(program)],
            [("main", "f"), ("a",), ("a",), ("main", "f"), 2],
        )
        with self.assertRaises(UnknownName) as caught:
            Program(Function("main", functions=[Function("f")], body=[Call("f", ["a"])]))
        self.assertEqual(caught.exception.value, "a")


class QueriesTest(unittest.TestCase):
    def setUp(self):
        self.program = large()

    def all(self, query):
        return {name: getattr(self.program, query)(name) for name in self.program.functions}

    def test_main(self):
        main = Function("main", ["a"])
        self.assertIs(Program(main).main, main)
        self.assertIs(Program(main=main).main, main)

    def test_functions_and_used(self):
        self.assertEqual(self.program.functions, ("main", "f", "g", "i", "h", "k", "l", "m"))
        self.assertEqual(self.program.used, ("main", "f", "h", "k"))

    def test_properties_are_not_assigned(self):
        for name in ("main", "functions", "used"):
            had = getattr(self.program, name)
            with self.assertRaises(AttributeError):
                setattr(self.program, name, ())
            self.assertIs(getattr(self.program, name), had)
        # A Function answers by the same name, with its inner functions instead of names.
        self.assertEqual([inner.name for inner in self.program.main.functions], ["f", "k", "l"])

    def test_used_in_the_order_of_the_text(self):
        functions = [Function("c"), Function("b", body=[Give("c")]), Function("a", body=[Call("b", [])]), Function("d")]
        self.assertEqual(Program(Function("main", functions=functions, body=[Give("a")])).used, ("main", "c", "b", "a"))
        self.assertEqual(Program(Function("main", functions=functions, body=[Give("b")])).used, ("main", "c", "b"))
        self.assertEqual(Program(Function("main", functions=functions)).used, ("main",))
        behind = [Either([], [Either([Give("d")], [])]), Show("v")]
        self.assertEqual(Program(Function("main", ["v"], functions=functions, body=behind)).used, ("main", "d"))

    def test_function(self):
        self.assertIs(self.program.function("main"), self.program.main)
        self.assertIs(self.program.function("f"), self.program.main.functions[0])
        self.assertIs(self.program.function("h"), self.program.main.functions[0].functions[1])
        self.assertIs(self.program.function("m"), self.program.main.functions[2].functions[0])

    def test_parent(self):
        want = {"main": None, "f": "main", "g": "f", "i": "g", "h": "f", "k": "main", "l": "main", "m": "l"}
        self.assertEqual(self.all("parent"), want)

    def test_chain(self):
        want = {
            "main": ("main",), "f": ("main", "f"), "g": ("main", "f", "g"), "i": ("main", "f", "g", "i"),
            "h": ("main", "f", "h"), "k": ("main", "k"), "l": ("main", "l"), "m": ("main", "l", "m"),
        }
        self.assertEqual(self.all("chain"), want)

    def test_variables(self):
        want = {
            "main": ("mb", "mc", "md", "ma", "mm", "mn"), "f": ("fb", "fa", "fc", "fn", "fm"), "g": ("gt",), "i": (),
            "h": ("ha",), "k": ("ka", "kb"), "l": ("lt", "ln"), "m": (),
        }
        self.assertEqual(self.all("variables"), want)

    def test_chain_things(self):
        main = ("mb", "mc", "md", "ma")
        f = (*main, "fb", "fa", "fc")
        want = {
            "main": main, "f": f, "g": (*f, "gt"), "i": (*f, "gt"), "h": (*f, "ha"), "k": (*main, "ka", "kb"),
            "l": (*main, "lt"), "m": (*main, "lt"),
        }
        self.assertEqual(self.all("chain_things"), want)

    def test_uses(self):
        want = {
            "main": ("mb", "md", "mm"), "f": ("mb", "fb", "fa", "fm"), "g": (), "i": ("fa", "gt"),
            "h": ("mb", "fn", "ha"), "k": ("ma", "mn", "ka", "kb"), "l": ("ln",), "m": ("mc", "lt"),
        }
        self.assertEqual(self.all("uses"), want)

    def test_needs(self):
        want = {
            "main": (), "f": ("mb", "ma", "mn"), "g": ("fa",), "i": ("fa", "gt"), "h": ("mb", "fn"),
            "k": ("mb", "ma", "mn"), "l": ("mb", "mc", "ma", "mn"), "m": ("mb", "mc", "ma", "mn", "lt"),
        }
        self.assertEqual(self.all("needs"), want)

    def test_captured(self):
        want = {
            "main": ("mb", "ma", "mn"), "f": ("fn",), "g": (), "i": (), "h": (), "k": (), "l": (), "m": (),
        }
        self.assertEqual(self.all("captured"), want)

    def test_what_only_unused_functions_need_is_not_captured(self):
        f = Function("f", body=[Show("a"), Add("n", 1)])
        parts = {"things": ["b", "a"], "numbers": ["m", "n"], "functions": [f]}
        self.assertEqual(Program(Function("main", **parts)).captured("main"), ())
        self.assertEqual(Program(Function("main", **parts)).needs("f"), ("a", "n"))
        self.assertEqual(Program(Function("main", body=[Give("f")], **parts)).captured("main"), ("a", "n"))
        self.assertEqual(Program(Function("main", body=[Call("f", [])], **parts)).captured("main"), ("a", "n"))

    def test_own_variables_are_not_needed(self):
        g = Function("g", body=[Show("a"), Show("b"), Give("f")])
        f = Function("f", things=["b"], functions=[g], body=[Show("b"), Call("h", ["b"]), Give("g")])
        h = Function("h", ["c"], body=[Show("c"), Add("n", 1), Show("p")])
        program = Program(Function("main", ["p"], things=["a"], numbers=["n"], functions=[f, h], body=[Give("f")]))
        self.assertEqual([program.needs(name) for name in program.functions],
                         [(), ("p", "a", "n"), ("p", "a", "n", "b"), ("p", "n")])
        self.assertEqual([program.captured(name) for name in program.functions], [("p", "a", "n"), ("b",), (), ()])

    def test_calls_in_a_circle(self):
        f = Function("f", body=[Show("a"), Either([Call("g", [])], [])])
        g = Function("g", body=[Show("b"), Either([], [Call("h", [])])])
        h = Function("h", body=[Show("c"), Either([Give("f")], [])])
        for functions in ([f, g, h], [h, g, f], [g, f, h], [g, h, f]):
            program = Program(Function("main", things=["c", "a", "b"], functions=functions))
            self.assertEqual([program.needs(name) for name in "fgh"], [("c", "a", "b")] * 3)

    def test_a_needed_function_far_away(self):
        functions = [Function(name, body=[Give(after)]) for name, after in zip("abcdefg", "bcdefgh")]
        functions.append(Function("h", body=[Show("v")]))
        program = Program(Function("main", things=["v"], functions=functions, body=[Give("a")]))
        self.assertEqual([program.needs(name) for name in "abcdefgh"], [("v",)] * 8)
        self.assertEqual(program.used, ("main", *"abcdefgh"))

    def test_each_thing_once(self):
        body = [Show("a"), Show("b"), Show("a"), Call("f", ["a", "a"]), Give("f"), Give("f")]
        f = Function("f", ["x", "y"], body=[Show("y"), Show("x"), Show("y"), Show("b"), Show("b")])
        program = Program(Function("main", things=["b", "a"], functions=[f], body=body))
        self.assertEqual([program.uses("main"), program.uses("f")], [("b", "a"), ("b", "x", "y")])
        self.assertEqual([program.needs("f"), program.captured("main"), program.used], [("b",), ("b",), ("main", "f")])

    def test_kinds(self):
        for value in (self.program.functions, self.program.used):
            self.assertIs(type(value), tuple)
        for query in QUERIES[2:]:
            for value in self.all(query).values():
                self.assertIs(type(value), tuple)
        for name in ("main", "functions", "used"):
            self.assertIsInstance(vars(Program)[name], property)
        for name in ("__init__", "__eq__", "__contains__", "__len__", *QUERIES):
            self.assertIn(name, vars(Program))

    def test_arguments_by_name(self):
        self.assertEqual([getattr(self.program, query)(name="f") for query in QUERIES],
                         [getattr(self.program, query)("f") for query in QUERIES])

    def test_unknown_names(self):
        for value in any_values() + ["a", "ma", "mn", "fa", "z", "mai", "mainn", "F", ["f"], ("f",), {"f": "f"}]:
            for query in QUERIES:
                with self.subTest(query=query, value=value):
                    with self.assertRaises(UnknownName) as caught:
                        getattr(self.program, query)(value)
                    self.assertIs(caught.exception.value, value)

    def test_in_and_len(self):
        for name in self.program.functions:
            self.assertIs(name in self.program, True)
        for value in any_values() + ["a", "ma", "mn", "fa", "z", ["f"], ("f",), {"f": "f"}, self.program.main]:
            self.assertIs(value in self.program, False)
        self.assertEqual([len(self.program), len(told()), len(Program(Function("a")))], [8, 2, 1])

    def test_equality(self):
        self.assertTrue(large() == large())
        self.assertFalse(large() != large())
        self.assertFalse(large() == told())
        self.assertTrue(large() != told())
        self.assertTrue(told() == Program(told().main))
        self.assertFalse(Program(Function("a")) == Program(Function("b")))
        self.assertFalse(Program(Function("a", ["b"])) == Program(Function("a", things=["b"])))
        for value in [None, 1, "main", told().main, [told()], ()]:
            self.assertFalse(told() == value)
            self.assertTrue(told() != value)


class UnchangedTest(unittest.TestCase):
    def lists(self):
        one, other, things = [Show("a")], [Call("f", ["b"])], ["a"]
        f = {"parameters": ["x"], "things": ["t"], "numbers": ["n"], "functions": [], "body": [Add("n", 1), Show("a")]}
        main = {"parameters": [], "things": ["a", "b"], "numbers": [], "functions": [Function("f", **f)],
                "body": [Either(one, other), Call("f", things)]}
        return Function("main", **main), [one, other, things, *f.values(), *main.values()]

    def facts(self, program):
        return [
            (name, *(getattr(program, query)(name) for query in QUERIES)) for name in program.functions
        ] + [program.used, len(program), program.functions]

    def test_what_is_passed_stays_as_it_is(self):
        main, lists = self.lists()
        had = [list(value) for value in lists]
        program = Program(main)
        self.facts(program)
        self.assertEqual([[id(member) for member in value] for value in lists],
                         [[id(member) for member in value] for value in had])
        self.assertTrue(main == self.lists()[0])

    def test_what_becomes_of_passed_lists_changes_nothing(self):
        for change in (lambda rows: rows.append("later"), lambda rows: rows.clear(), lambda rows: rows.insert(0, "b")):
            main, lists = self.lists()
            program = Program(main)
            facts = self.facts(program)
            for rows in lists:
                change(rows)
            self.assertEqual(self.facts(program), facts)
            self.assertTrue(program == Program(self.lists()[0]))
            self.assertTrue(main == self.lists()[0])
            self.assertIsNone(refusal(main))
            self.assertEqual(self.facts(Program(main)), facts)

    def test_equal_calls_return_equal_results(self):
        program = large()
        self.assertEqual(self.facts(program), self.facts(program))
        self.assertEqual(self.facts(program), self.facts(large()))
