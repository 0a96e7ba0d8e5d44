import unittest

from heldby.statements import Add, Call, Either, Function, Give, Show
from tests.samples import refusal


def in_eithers(statement):
    """Bodies in which the statement stands by itself, and in Eithers."""
    return [
        [statement],
        [Either([statement], [])],
        [Either([], [statement])],
        [Either([Either([], [Either([statement], [])])], [])],
    ]


class DuplicateNameTest(unittest.TestCase):
    def check(self, main, value):
        self.assertEqual(refusal(main), ("DuplicateName", value))

    def test_in_one_function(self):
        self.check(Function("main", ["main"]), "main")
        self.check(Function("main", things=["main"]), "main")
        self.check(Function("main", numbers=["main"]), "main")
        self.check(Function("main", ["a", "a"]), "a")
        self.check(Function("main", ["a", "b", "a"]), "a")
        self.check(Function("main", ["a"], things=["a"]), "a")
        self.check(Function("main", ["a"], numbers=["a"]), "a")
        self.check(Function("main", things=["a", "a"]), "a")
        self.check(Function("main", things=["a"], numbers=["a"]), "a")
        self.check(Function("main", numbers=["a", "a"]), "a")

    def test_in_several_functions(self):
        variables = [{"parameters": ["a"]}, {"things": ["a"]}, {"numbers": ["a"]}]
        for one in variables:
            self.check(Function("main", functions=[Function("a")], **one), "a")
            self.check(Function("a", functions=[Function("f", **one)]), "a")
            self.check(Function("main", functions=[Function("a"), Function("f", **one)]), "a")
            self.check(Function("main", functions=[Function("f", **one), Function("a")]), "a")
            for other in variables:
                self.check(Function("main", functions=[Function("f", **one)], **other), "a")
                self.check(Function("main", functions=[Function("f", **one), Function("g", **other)]), "a")
                farther = Function("f", functions=[Function("g", **one)])
                self.check(Function("main", functions=[farther], **other), "a")
                self.check(Function("main", functions=[farther, Function("h", **other)]), "a")

    def test_names_of_functions(self):
        self.check(Function("main", functions=[Function("main")]), "main")
        self.check(Function("main", functions=[Function("f"), Function("f")]), "f")
        self.check(Function("main", functions=[Function("f", functions=[Function("f")])]), "f")
        self.check(Function("main", functions=[Function("f", functions=[Function("main")])]), "main")
        one = Function("f")
        self.check(Function("main", functions=[one, Function("g", functions=[one])]), "f")

    def test_the_first_place_in_the_text(self):
        self.check(Function("main", ["a", "b", "b", "a"]), "b")
        self.check(Function("main", ["a", "b"], things=["b"], numbers=["a"]), "b")
        self.check(Function("main", ["a"], numbers=["n", "n"], functions=[Function("a")]), "n")
        self.check(Function("main", ["a", "b"], functions=[Function("b", ["a"])]), "b")
        deep = Function("f", functions=[Function("g", ["a"])])
        self.check(Function("main", ["a", "b"], functions=[deep, Function("h", ["b"])]), "a")
        self.check(Function("main", ["a", "b"], functions=[Function("h", ["b"]), deep]), "b")
        self.check(Function("main", ["b"], functions=[Function("f", functions=[Function("b")]), Function("f")]), "b")

    def test_all_different(self):
        f = Function("f", ["ab"], things=["b"], numbers=["ba"], functions=[Function("g", ["aa"])])
        self.assertIsNone(refusal(Function("main", ["a"], things=["aaa"], numbers=["n"], functions=[f])))


def village(bodies):
    """main has the inner functions f and k; g is inside f, h inside g, l inside k. Each one has a thing t. and a number
    n., with its own letter behind it."""
    def made(name, functions=()):
        letter = name[0]
        return Function(
            name, things=["t" + letter], numbers=["n" + letter], functions=functions, body=bodies.get(name, []),
        )

    return made("main", [made("f", [made("g", [made("h")])]), made("k", [made("l")])])


# What is visible: the letters of the functions whose variables are, and those of the functions but main that are.
AROUND = {"main": "m", "f": "mf", "g": "mfg", "h": "mfgh", "k": "mk", "l": "mkl"}
CALLEES = {"main": "fk", "f": "fgk", "g": "fghk", "h": "fghk", "k": "fkl", "l": "fkl"}


class UnknownNameTest(unittest.TestCase):
    def check(self, main, value):
        self.assertEqual(refusal(main), ("UnknownName", value))

    def test_visible_variables(self):
        for name, around in AROUND.items():
            for letter in "mfghkl":
                for variable in ("t" + letter, "n" + letter):
                    for body in in_eithers(Show(variable)):
                        with self.subTest(name=name, variable=variable):
                            want = None if letter in around else ("UnknownName", variable)
                            self.assertEqual(refusal(village({name: body})), want)

    def test_visible_numbers(self):
        for name, around in AROUND.items():
            for letter in "mfghkl":
                for body in in_eithers(Add("n" + letter, 1)):
                    with self.subTest(name=name, letter=letter):
                        want = None if letter in around else ("UnknownName", "n" + letter)
                        self.assertEqual(refusal(village({name: body})), want)

    def test_visible_functions(self):
        for name, callees in CALLEES.items():
            for other in ("main", "f", "g", "h", "k", "l"):
                # Calls stand behind an Either, so that no function is endless.
                for statement in (Give(other), Either([Call(other, [])], [])):
                    for body in in_eithers(statement):
                        with self.subTest(name=name, other=other):
                            want = None if other in callees else ("UnknownName", other)
                            self.assertEqual(refusal(village({name: body})), want)

    def test_things_of_calls(self):
        for letter in "mfgkl":
            want = None if letter in "mk" else ("UnknownName", "t" + letter)
            inner = Function("l", ["x", "y"], things=["tl"])
            k = Function("k", things=["tk"], functions=[inner], body=[Call("l", ["tk", "t" + letter])])
            f = Function("f", things=["tf"], functions=[Function("g", things=["tg"])])
            self.assertEqual(refusal(Function("main", things=["tm"], functions=[f, k])), want)

    def test_main_is_not_called_and_not_given(self):
        for body in in_eithers(Give("main")) + in_eithers(Call("main", [])):
            self.check(Function("main", body=body), "main")
            self.check(Function("main", functions=[Function("f", body=body)]), "main")

    def test_names_that_are_none(self):
        for statement in (Show("no"), Add("no", 1), Call("no", []), Give("no"), Call("f", ["no"])):
            for body in in_eithers(statement):
                self.check(Function("main", things=["a"], functions=[Function("f", ["x"])], body=body), "no")

    def test_functions_in_the_place_of_variables(self):
        for name in ("f", "main", "g"):
            for statement in (Show(name), Add(name, 1), Call("f", [name])):
                main = Function("main", functions=[Function("f", ["x"]), Function("g")], body=[statement])
                self.check(main, name)

    def test_variables_in_the_place_of_functions(self):
        for name in ("p", "a", "n"):
            for statement in (Give(name), Call(name, [])):
                self.check(Function("main", ["p"], things=["a"], numbers=["n"], body=[statement]), name)

    def test_inner_functions_of_other_ones(self):
        inner = Function("f", functions=[Function("g")])
        for statement in (Give("g"), Call("g", [])):
            self.check(Function("main", functions=[inner], body=[statement]), "g")
            self.check(Function("main", functions=[inner, Function("h", body=[statement])]), "g")

    def test_the_name_of_a_call_first_then_its_things(self):
        f = Function("f", ["x", "y"])
        self.check(Function("main", functions=[f], body=[Call("no", ["b", "c"])]), "no")
        self.check(Function("main", functions=[f], body=[Call("f", ["c", "b"])]), "c")
        self.check(Function("main", ["b"], functions=[f], body=[Call("f", ["b", "c"])]), "c")
        self.check(Function("main", ["b"], functions=[f], body=[Call("main", ["c"])]), "main")

    def test_the_first_place_in_the_text(self):
        self.check(Function("main", body=[Show("b"), Show("a")]), "b")
        self.check(Function("main", body=[Give("b"), Add("a", 1), Call("c", [])]), "b")
        self.check(Function("main", body=[Either([Show("c")], [Show("b")]), Show("a")]), "c")
        self.check(Function("main", body=[Either([], [Show("b")]), Show("a")]), "b")
        self.check(Function("main", body=[Either([Either([], [Show("d")])], [Show("b")]), Show("a")]), "d")
        self.check(Function("main", body=[Either([Either([], []), Show("e")], [Show("b")]), Show("a")]), "e")
        self.check(Function("main", body=[Either([Show("c"), Show("b"), Show("a")], [])]), "c")
        self.check(Function("main", body=[Either([], [Show("c"), Show("b"), Show("a")])]), "c")
        self.check(Function("main", body=[Either([], [Either([], [Show("c"), Give("b")]), Show("a")])]), "c")

    def test_inner_functions_ahead_of_the_body(self):
        f = Function("f", functions=[Function("g", body=[Show("c")])], body=[Show("b")])
        self.check(Function("main", functions=[f], body=[Show("a")]), "c")
        self.check(Function("main", functions=[Function("h", body=[Show("d")]), f], body=[Show("a")]), "d")
        self.check(Function("main", functions=[f, Function("h", body=[Show("d")])], body=[Show("a")]), "c")
        f = Function("f", functions=[Function("g")], body=[Show("b")])
        self.check(Function("main", functions=[f, Function("h", body=[Show("d")])], body=[Show("a")]), "b")


class WrongKindTest(unittest.TestCase):
    def check(self, main, value):
        self.assertEqual(refusal(main), ("WrongKind", value))

    def test_add_to_a_thing(self):
        for name in ("p", "a"):
            for body in in_eithers(Add(name, 1)):
                self.check(Function("main", ["p"], things=["a"], body=body), name)
                self.check(Function("main", ["p"], things=["a"], functions=[Function("f", body=body)]), name)

    def test_number_passed_on(self):
        for things in (["n"], ["n", "a"], ["a", "n"], ["a", "n", "n"]):
            for body in in_eithers(Call("f", things)):
                f = Function("f", ["x", "y", "z"][:len(things)])
                self.check(Function("main", things=["a"], numbers=["n"], functions=[f], body=body), "n")
                h = Function("h", body=body)
                self.check(Function("main", things=["a"], numbers=["n"], functions=[f, h]), "n")

    def test_the_first_place_in_the_text(self):
        f = Function("f", ["x", "y"])
        told = {"things": ["a", "b"], "numbers": ["n", "m"], "functions": [f]}
        self.check(Function("main", body=[Add("b", 1), Add("a", 1)], **told), "b")
        self.check(Function("main", body=[Call("f", ["m", "n"])], **told), "m")
        self.check(Function("main", body=[Call("f", ["a", "n"]), Add("b", 1)], **told), "n")
        self.check(Function("main", body=[Either([Add("n", 1)], [Add("b", 1)]), Add("a", 1)], **told), "b")
        self.check(Function("main", body=[Either([Add("b", 1), Add("a", 1)], [])], **told), "b")
        self.check(Function("main", body=[Either([], [Call("f", ["m", "a"]), Add("a", 1)])], **told), "m")
        inner = Function("g", functions=[Function("h", body=[Add("b", 1)])], body=[Add("a", 1)])
        main = Function("main", things=["a", "b"], numbers=["n"], functions=[inner], body=[Add("a", 1)])
        self.check(main, "b")

    def test_right_kinds(self):
        main = Function(
            "main", ["p"], things=["a"], numbers=["n"], functions=[Function("f", ["x", "y"])],
            body=[Add("n", 1), Call("f", ["p", "a"]), Show("p"), Show("a"), Show("n"), Call("f", ["a", "a"])],
        )
        self.assertIsNone(refusal(main))


class WrongCountTest(unittest.TestCase):
    def test_every_count(self):
        for there in range(4):
            for passed in range(5):
                for body in in_eithers(Call("f", ["a"] * passed)):
                    f = Function("f", ["x", "y", "z"][:there], things=["t"], numbers=["n"])
                    want = None if there == passed else ("WrongCount", "f")
                    self.assertEqual(refusal(Function("main", things=["a"], functions=[f], body=body)), want)
                    g = Function("g", functions=[Function("h", body=body)])
                    self.assertEqual(refusal(Function("main", things=["a"], functions=[f, g])), want)

    def test_the_first_place_in_the_text(self):
        def main(functions, body):
            f, g = Function("f", ["x"]), Function("g", ["y"])
            return Function("main", things=["a"], functions=[f, g, *functions], body=body)

        self.assertEqual(refusal(main([], [Call("g", []), Call("f", [])])), ("WrongCount", "g"))
        self.assertEqual(refusal(main([], [Either([Call("f", ["a"])], [Call("g", [])])])), ("WrongCount", "g"))
        for body in ([Either([Call("g", []), Call("f", [])], [])], [Either([], [Call("g", []), Call("f", [])])]):
            self.assertEqual(refusal(main([], body)), ("WrongCount", "g"))
        inner = Function("h", body=[Call("g", [])])
        self.assertEqual(refusal(main([inner], [Call("f", [])])), ("WrongCount", "g"))
        self.assertEqual(refusal(main([inner], [Call("f", ["a"])])), ("WrongCount", "g"))

    def test_gives_pass_nothing(self):
        self.assertIsNone(refusal(Function("main", functions=[Function("f", ["x", "y"])], body=[Give("f")])))
