import unittest

from heldby.names import is_integer, is_name
from heldby.programs import Program
from heldby.statements import Add, Call, Either, Function, Give, Show, Statement
from tests.samples import any_values, refusal

NAMES = ["a", "z", "m", "abcdefgh", "stuvwxyz", "aaaaaaaa", "function"]
NO_NAMES = any_values() + [
    "abcdefghi", "a" * 1000, "Abc", "abC", "ABC", "a1", "1", "a_b", "_", "a-b", "a.", " a", "a ", "a\n", "\n", "{", "`",
    "\u00e4", "\u00df", "\u0430", "\u0131", "\uff41", "b\u0300", "\u00aa", b"a", 1.0,
]
NO_LISTS = [value for value in any_values() + ["a", "abc", b"a", {"a"}] if not isinstance(value, (list, tuple))]
NO_FUNCTIONS = [value for value in any_values() + ["a"] if not isinstance(value, Function)]
STATEMENTS = (Show, Add, Call, Give, Either)
NO_STATEMENTS = [value for value in any_values() + ["a", Show, Statement()] if not isinstance(value, STATEMENTS)]
NO_COUNTS = [0, -1, 1001, 10 ** 99, -(10 ** 99), True, False, None, "", "1", "5", 1.0, (1,), [1], {1: 1}, Show("a")]


def wrong_statements():
    """Statements that are not as told, each with one fault."""
    wrong = []
    for value in NO_NAMES:
        wrong += [Show(value), Give(value), Add(value, 1), Call(value, []), Call(value, ["b"])]
        wrong += [Call("f", [value]), Call("f", ["b", value, "c"]), Call("f", ("b", "c", value))]
    for value in NO_COUNTS:
        wrong.append(Add("a", value))
    for value in NO_LISTS:
        wrong += [Call("f", value), Either(value, []), Either([], value)]
    return wrong


def wrong_members():
    return NO_STATEMENTS + wrong_statements()


def around(statement):
    """Bodies in which the statement stands in different places, in Eithers and Eithers in Eithers, too."""
    fine = Show("a")
    return [
        [statement],
        (fine, statement, fine),
        [Either([statement], [])],
        [Either((fine,), (fine, statement)), fine],
        [Either([], [Either([fine], [Either([], []), Either([statement], [fine])])])],
        [Either([Either([Either([fine], [statement])], [])], [])],
    ]


class NameTest(unittest.TestCase):
    def test_names(self):
        for value in NAMES:
            self.assertIs(is_name(value), True)
        for value in NO_NAMES:
            with self.subTest(value=value):
                self.assertIs(is_name(value), False)

    def test_every_single_character(self):
        letters = [chr(code) for code in range(0x3000) if is_name(chr(code))]
        self.assertEqual("".join(letters), "abcdefghijklmnopqrstuvwxyz")

    def test_integers(self):
        self.assertEqual([is_integer(value, 1, 3) for value in (0, 1, 2, 3, 4, True, "1", None)],
                         [False, True, True, True, False, False, False, False])


class ShapeTest(unittest.TestCase):
    def check(self, main, place):
        self.assertEqual(refusal(main), ("InvalidProgram", place))

    def everywhere(self, wrong, place=None):
        """Checks a function as main, as an inner one, and farther in, first and behind others."""
        place = wrong.name if place is None else place
        self.check(wrong, place)
        self.check(Function("out", functions=[wrong]), place)
        self.check(Function("out", functions=(Function("first"), wrong, Function("last"))), place)
        self.check(Function("out", functions=[Function("mid", functions=[Function("first"), wrong])]), place)

    def test_main_is_no_function(self):
        for value in NO_FUNCTIONS:
            with self.subTest(value=value):
                self.check(value, "")

    def test_name_of_a_function(self):
        for value in NO_NAMES:
            with self.subTest(value=value):
                self.everywhere(Function(value), "")

    def test_names_of_all_lengths(self):
        for name in NAMES:
            self.assertIsNone(refusal(Function(name)))
            self.assertIsNone(refusal(Function("out", functions=[Function(name, [name[:-1] + "x"])])))

    def test_lists_of_variables(self):
        for value in NO_LISTS:
            with self.subTest(value=value):
                self.everywhere(Function("f", value))
                self.everywhere(Function("f", things=value))
                self.everywhere(Function("f", numbers=value))

    def test_names_of_variables(self):
        for value in NO_NAMES:
            for names in ([value], [value, "b"], ("b", "c", value)):
                with self.subTest(names=names):
                    self.everywhere(Function("f", names))
                    self.everywhere(Function("f", things=names))
                    self.everywhere(Function("f", numbers=names))

    def test_functions_is_no_list(self):
        for value in NO_LISTS:
            with self.subTest(value=value):
                self.everywhere(Function("f", functions=value))

    def test_member_of_functions(self):
        for value in NO_FUNCTIONS:
            for functions in ([value], (Function("g"), value), [value, Function("g")]):
                with self.subTest(value=value):
                    self.everywhere(Function("f", functions=functions), "")

    def test_body_is_no_list(self):
        for value in NO_LISTS:
            with self.subTest(value=value):
                self.everywhere(Function("f", body=value))

    def test_members_of_bodies(self):
        for value in wrong_members():
            for body in around(value):
                with self.subTest(value=vars(value) if hasattr(value, "__dict__") else value):
                    self.everywhere(Function("f", body=body))

    def test_number_from_1_to_1000(self):
        for many in (1, 2, 999, 1000):
            for body in ([Add("n", many)], [Either([], [Add("n", many)])]):
                self.assertIsNone(refusal(Function("f", numbers=["n"], body=body)))
        for many in NO_COUNTS:
            with self.subTest(many=many):
                self.check(Function("f", numbers=["n"], body=[Add("n", many)]), "f")

    def test_tuples_wherever_lists_are_expected(self):
        lists = Function(
            "main", ["a"], things=["b"], numbers=["n"],
            functions=[Function("f", ["x"], body=[Show("b")])],
            body=[Call("f", ["a"]), Either([Show("a")], [Either([], [Add("n", 1)])])],
        )
        tuples = Function(
            "main", ("a",), things=("b",), numbers=("n",),
            functions=(Function("f", ("x",), body=(Show("b"),)),),
            body=(Call("f", ("a",)), Either((Show("a"),), (Either((), (Add("n", 1),)),))),
        )
        self.assertTrue(Program(lists) == Program(tuples))


class FirstPlaceTest(unittest.TestCase):
    """Two or more places are wrong: the first one in the order of the text is told."""

    def check(self, main, place):
        self.assertEqual(refusal(main), ("InvalidProgram", place))

    def test_name_first(self):
        self.check(Function("F", [3], things=3, numbers=3, functions=3, body=3), "")
        self.check(Function("F", functions=[Function("g", [3])]), "")

    def test_own_variables_ahead_of_inner_functions(self):
        inner = [3, Function("g", [3]), Function("G")]
        for at in range(3):
            for wrong in (["A"], 3):
                for functions in (inner, inner[1:], inner[2:]):
                    told = [[], [], []]
                    told[at] = wrong
                    f = Function("f", told[0], things=told[1], numbers=told[2], functions=functions)
                    self.check(f, "f")
                    self.check(Function("main", functions=[f, Function("h", [3])]), "f")

    def test_inner_functions_ahead_of_the_body(self):
        for body in (3, [3], [Show("A")], [Either(3, [])]):
            self.check(Function("f", functions=[Function("g", [3])], body=body), "g")
            self.check(Function("f", functions=[Function("g", body=body)], body=body), "g")
            self.check(Function("f", functions=[Function("G")], body=body), "")
            self.check(Function("f", functions=[Function("g"), "h"], body=body), "")
            deep = Function("f", functions=[Function("g", functions=[Function("h", body=body)], body=body)], body=body)
            self.check(deep, "h")
            self.check(Function("f", functions=3, body=body), "f")

    def test_one_inner_function_behind_the_other(self):
        g, h = Function("g", body=[3]), Function("h", [3])
        self.check(Function("f", functions=[g, h]), "g")
        self.check(Function("f", functions=[h, g]), "h")
        self.check(Function("f", functions=[g, 3]), "g")
        self.check(Function("f", functions=[3, g]), "")
        self.check(Function("f", functions=[g, Function("")]), "g")
        self.check(Function("f", functions=[Function("k", functions=[h]), g]), "h")
        self.check(Function("f", functions=[Function("k", functions=[h], body=3), g]), "h")
        self.check(Function("f", functions=[Function("k", functions=[Function("i")], body=3), g]), "k")

    def test_the_place_is_the_function_that_is_wrong_and_not_one_around_it(self):
        wrong = Function("e", body=[Show(3)])
        for name in ("d", "c", "b", "a"):
            wrong = Function(name, functions=[wrong], body=[Show(3)])
        self.check(wrong, "e")
