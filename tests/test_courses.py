import unittest

from heldby.statements import Add, Call, Either, Function, Give, Show
from tests.samples import refusal, shows


def calls(name, many):
    return [Call(name, [])] * many


class EndlessTest(unittest.TestCase):
    def check(self, main, value):
        self.assertEqual(refusal(main), ("Endless", value))

    def both(self, functions, value):
        """The functions inside main, called by it or not: value is the first endless one of them."""
        self.check(Function("main", functions=functions), value)
        self.check(Function("main", functions=functions, body=[Either([Call(value, [])], [])]), value)
        self.check(Function("main", functions=functions, body=[Give(value)]), value)
        self.check(Function("main", functions=functions, body=[Call(value, [])]), "main")

    def test_calls_of_itself(self):
        self.both([Function("f", body=calls("f", 1))], "f")
        self.both([Function("f", body=[Give("f"), Call("f", [])])], "f")
        self.both([Function("f", things=["a"], body=[Call("f", []), Show("a")])], "f")
        self.both([Function("f", body=[Either([], []), Call("f", [])])], "f")

    def test_behind_an_either(self):
        again = Call("f", [])
        self.both([Function("f", body=[Either([again], [again])])], "f")
        self.both([Function("f", body=[Either([again], [Give("f"), Either([again], [again])])])], "f")
        self.both([Function("f", body=[Either([again], []), Either([again], [again])])], "f")
        for body in ([Either([again], [])], [Either([], [again])], [Either([again], [Either([again], [])])],
                     [Either([again, again], []), Either([], [again])]):
            self.assertIsNone(refusal(Function("main", functions=[Function("f", body=body)], body=[again])))

    def test_gives_end(self):
        self.assertIsNone(refusal(Function("main", functions=[Function("f", body=[Give("f")])], body=[Give("f")])))

    def test_calls_of_one_another(self):
        f, g = Function("f", body=calls("g", 1)), Function("g", body=calls("f", 1))
        self.both([f, g], "f")
        self.both([g, f], "g")
        three = [Function(name, body=calls(after, 1)) for name, after in zip("fgh", "ghf")]
        self.both(three, "f")
        ending = Function("g", body=[Either(calls("f", 1), [])])
        self.assertIsNone(refusal(Function("main", functions=[f, ending], body=calls("f", 1))))
        self.assertIsNone(refusal(Function("main", functions=[ending, f], body=calls("f", 1))))

    def test_calls_of_what_is_endless(self):
        endless = Function("e", body=calls("e", 1))
        self.both([Function("f", body=calls("e", 1)), endless], "f")
        self.both([Function("d", body=[Either(calls("e", 1), [])]), endless], "e")
        self.both([Function("d", body=[Give("e")]), endless, Function("f", body=calls("e", 1))], "e")
        self.both([Function("f", body=calls("g", 1)), Function("g", body=calls("e", 1)), endless], "f")

    def test_inner_functions_and_those_around(self):
        inner = Function("g", body=calls("f", 1))
        self.both([Function("f", functions=[inner], body=calls("g", 1))], "f")
        self.both([Function("f", functions=[inner], body=[Either(calls("g", 1), calls("g", 1))])], "f")
        self.assertIsNone(refusal(Function("main", functions=[Function("f", functions=[inner])])))
        self.check(Function("main", functions=[Function("f", functions=[Function("g", body=calls("g", 1))])]), "g")

    def test_the_first_one_of_functions(self):
        e = Function("e", body=calls("e", 1))
        inner = Function("i", body=calls("i", 1))
        self.check(Function("main", functions=[Function("f", functions=[inner]), e]), "i")
        self.check(Function("main", functions=[e, Function("f", functions=[inner])]), "e")
        # The body of an inner function stands ahead, but the function around it is the first one of functions.
        self.check(Function("main", functions=[Function("f", functions=[inner], body=calls("i", 1)), e]), "f")
        self.check(Function("main", functions=[Function("f", functions=[inner])], body=calls("f", 1)), "i")
        self.check(Function("main", functions=[e, Function("f", functions=[inner])], body=calls("e", 1)), "main")


class TooManyTest(unittest.TestCase):
    def check(self, main, limit):
        self.assertEqual(refusal(main), ("TooMany", limit) if limit else None)

    def names(self, many, letter="v"):
        return [letter + "abcdefghijklmnopqrstuvwxyz"[at] for at in range(many)]

    def nest(self, depth, inmost):
        """Functions in one another, without variables, around a function."""
        made = inmost
        for at in range(depth):
            made = Function("n" + "abcdefghij"[at], functions=[made])
        return made

    def test_functions(self):
        for many, limit in ((9, None), (10, None), (11, 10), (12, 10), (20, 10)):
            inner = [Function(name) for name in self.names(many - 1)]
            self.check(Function("main", functions=inner), limit)
            half = Function("f", functions=inner[:4])
            self.check(Function("main", functions=[half, *inner[5:]]), limit)
            g = Function("g", functions=[Function("h", functions=inner[2:])])
            self.check(Function("main", functions=[g]), limit)

    def test_depth(self):
        for depth, limit in ((1, None), (4, None), (5, None), (6, 5), (7, 5), (9, 5)):
            self.check(self.nest(depth - 1, Function("f")), limit)
        for depth, limit in ((3, None), (4, None), (5, 5)):
            self.check(Function("main", functions=[Function("g"), self.nest(depth - 1, Function("f"))]), limit)
            self.check(Function("main", functions=[self.nest(depth - 1, Function("f")), Function("g")]), limit)

    def test_chain(self):
        for many, limit in ((11, None), (12, None), (13, 12), (20, 12)):
            names = self.names(many)
            self.check(Function("main", names), limit)
            self.check(Function("main", things=names), limit)
            self.check(Function("main", names[:4], things=names[4:]), limit)
            self.check(Function("main", names[:1], things=names[1:3], functions=[Function("f", names[3:])]), limit)
            deep = Function("f", names[4:5], functions=[Function("g", things=names[5:])])
            self.check(Function("main", names[:2], things=names[2:4], functions=[deep]), limit)
            wide = [Function("h"), deep, Function("i", self.names(4, "w"))]
            self.check(Function("main", names[:2], things=names[2:4], functions=wide), limit)

    def test_chain_has_things_of_one_branch_only_and_no_numbers(self):
        f, g = Function("f", self.names(6, "x")), Function("g", things=self.names(6, "y"))
        self.check(Function("main", self.names(6), numbers=self.names(9, "n"), functions=[f, g]), None)
        h = Function("h", things=self.names(7, "y"))
        self.check(Function("main", self.names(6), functions=[f, h]), 12)
        self.check(Function("main", self.names(6), functions=[h, f]), 12)

    def test_statements(self):
        for many, limit in ((59, None), (60, None), (61, 60), (62, 60), (90, 60)):
            self.check(Function("main", ["a"], body=shows("a", many)), limit)
            self.check(Function("main", ["a"], body=[Either(shows("a", 5), shows("a", many - 6))]), limit)
            self.check(Function("main", ["a"], body=[Either(shows("a", many - 1), [])]), limit)
            f = Function("f", functions=[Function("g", body=shows("a", 30))], body=[Give("f")])
            self.check(Function("main", ["a"], functions=[f], body=shows("a", many - 31)), limit)
            self.check(Function("main", ["a"], functions=[Function("f", body=shows("a", many))]), limit)
            mixed = [Add("n", 1), Call("f", []), Give("f"), Show("a"), Either([], [])]
            rest = shows("a", many - 5)
            self.check(Function("main", ["a"], numbers=["n"], functions=[Function("f")], body=mixed + rest), limit)

    def test_nested_eithers(self):
        for many, limit in ((60, None), (61, 60), (90, 60)):
            for side in (0, 1):
                body = []
                for _ in range(many):
                    body = [Either(body, []) if side else Either([], body)]
                self.check(Function("main", body=body), limit)

    def test_two_passed_at_once(self):
        many_functions = [Function(name) for name in self.names(10, "f")]
        deep = self.nest(5, Function("deep"))
        long_chain = self.names(13)
        many_statements = shows("va", 61)
        self.check(Function("main", functions=[*many_functions, deep]), 10)
        self.check(Function("main", functions=[deep, *many_functions]), 10)
        self.check(Function("main", long_chain, functions=many_functions), 10)
        self.check(Function("main", ["va"], functions=many_functions, body=many_statements), 10)
        self.check(Function("main", long_chain, functions=[deep], body=many_statements), 5)
        self.check(Function("main", long_chain, functions=[deep]), 5)
        self.check(Function("main", ["va"], functions=[deep], body=many_statements), 5)
        self.check(Function("main", long_chain, body=many_statements), 12)
        self.check(Function("main", long_chain, functions=[*many_functions, deep], body=many_statements), 10)


class TooLongTest(unittest.TestCase):
    def check(self, body, moments, *functions):
        """The body has this many moments on its shortest way, in main, in an inner function, called or not."""
        told = {"things": ["a"], "numbers": ["n"]}
        for add in (0, 1, 2):
            longer = [*body, *shows("a", add)]
            want = None if moments + add <= 100 else ("TooLong", 100)
            self.assertEqual(refusal(Function("main", functions=functions, body=longer, **told)), want)
            ahead = [*shows("a", add), *body]
            self.assertEqual(refusal(Function("main", functions=functions, body=ahead, **told)), want)
            z = Function("z", body=longer)
            self.assertEqual(refusal(Function("main", functions=[*functions, z], **told)), want)
            y = Function("y", functions=[z], body=[Either([Call("z", [])], [])])
            self.assertEqual(refusal(Function("main", functions=[*functions, y], **told)), want)
            self.assertEqual(refusal(Function("main", functions=[*functions, y], body=[Give("y")], **told)), want)

    def test_calls(self):
        # A call has the entry and the statements of its function, and the moment behind the call.
        self.check(calls("f", 9), 1 + 9 * 11, Function("f", body=shows("a", 9)))
        self.check(calls("f", 49) + shows("a", 1), 1 + 49 * 2 + 1, Function("f"))
        self.check([*calls("f", 49), Give("f")], 1 + 49 * 2 + 1, Function("f"))
        self.check([Add("n", 7), *calls("f", 49)], 1 + 1 + 49 * 2, Function("f"))

    def test_calls_in_calls(self):
        g = Function("g", body=shows("a", 3))
        f = Function("f", body=calls("g", 3))
        self.check(calls("f", 5) + shows("a", 14), 1 + 5 * (1 + (1 + 3 * (1 + 4))) + 14, f, g)
        self.check(calls("f", 5) + shows("a", 14), 1 + 5 * (1 + (1 + 3 * (1 + 4))) + 14, g, f)
        inner = Function("f", functions=[g], body=calls("g", 3))
        self.check(calls("f", 5) + shows("a", 14), 1 + 5 * (1 + (1 + 3 * (1 + 4))) + 14, inner)

    def test_eithers(self):
        # An either has the moment of the choice and the moment behind it, and those of the shorter list.
        f = Function("f", body=[Either(shows("a", 7), shows("a", 8))])
        self.check(calls("f", 9), 1 + 9 * (1 + 1 + 2 + 7), f)
        f = Function("f", body=[Either(shows("a", 8), shows("a", 7))])
        self.check(calls("f", 9), 1 + 9 * (1 + 1 + 2 + 7), f)
        self.check([Either([], [])] * 49 + shows("a", 1), 1 + 49 * 2 + 1)
        f = Function("f", body=[
            Either([], []), Either([Either([], [])], shows("a", 4)), Either([], []), *shows("a", 6)])
        self.check([Either([], shows("a", 1))] * 8 + calls("f", 5) + shows("a", 3), 1 + 8 * 2 + 5 * 16 + 3, f)

    def test_calls_in_eithers(self):
        f = Function("f", body=shows("a", 12))
        g = Function("g", body=shows("a", 11))
        for choice in (Either(calls("f", 1), calls("g", 1)), Either(calls("g", 1), calls("f", 1))):
            self.check([choice] * 6 + shows("a", 9), 1 + 6 * (2 + 1 + 12) + 9, f, g)
            self.check([choice] * 6 + shows("a", 9), 1 + 6 * (2 + 1 + 12) + 9, g, f)

    def test_recursion_takes_the_shortest_way_out(self):
        f = Function("f", body=[Either(calls("f", 1), shows("a", 5)), Show("a")])
        self.check(calls("f", 9), 1 + 9 * (1 + 1 + 2 + 5 + 1) + 0, f)
        f = Function("f", body=[Either(calls("g", 1), shows("a", 9))])
        g = Function("g", body=[Either(calls("f", 1), shows("a", 2))])
        # f: 1 + 2 + 1 + 5 by way of g, which is shorter than its own way out.
        self.check(calls("f", 9) + shows("a", 9), 1 + 9 * 10 + 9, f, g)
        self.check(calls("f", 9) + shows("a", 9), 1 + 9 * 10 + 9, g, f)

    def test_an_endless_branch_is_no_way(self):
        f = Function("f", body=[Either(calls("f", 1), shows("a", 6))])
        self.check(calls("f", 9) + shows("a", 9), 1 + 9 * 10 + 9, f)

    def test_the_shortest_way_may_be_far_below_the_longest_one(self):
        main = Function("main", ["a"], functions=[Function("f", body=calls("g", 9)), Function("g", body=shows("a", 9))],
                        body=[Either(calls("f", 9), [])])
        self.assertIsNone(refusal(main))

    def test_very_long_ways(self):
        letters = zip("abcdefgh", "bcdefghi")
        functions = [Function("f" + letter, body=calls("f" + after, 6)) for letter, after in letters]
        main = Function("main", ["a"], functions=[*functions, Function("fi", body=shows("a", 6))])
        self.assertEqual(refusal(main), ("TooLong", 100))


class FirstErrorTest(unittest.TestCase):
    """Of two errors that are due, the one that the document puts first is raised, wherever they stand."""

    # Inner functions, each with one fault, in the order in which the document has the errors.
    FAULTS = [
        (("InvalidProgram", "fa"), Function("fa", body=[Show("A")])),
        (("DuplicateName", "same"), Function("fb", things=["same", "same"])),
        (("UnknownName", "no"), Function("fc", body=[Show("no")])),
        (("WrongKind", "thing"), Function("fd", things=["thing"], body=[Add("thing", 1)])),
        (("WrongCount", "fe"), Function("fe", things=["one"], body=[Either([Call("fe", ["one"])], [])])),
        (("Endless", "ff"), Function("ff", body=[Call("ff", [])])),
        (("TooMany", 10), Function("fg", functions=[Function("g" + letter) for letter in "abcdefghij"])),
        (("TooMany", 5), Function("fh", functions=[Function("ha", functions=[Function("hb", functions=[
            Function("hc", functions=[Function("hd")])])])])),
        (("TooMany", 12), Function("fi", ["i" + letter for letter in "abcdefghijklm"])),
        (("TooMany", 60), Function("fj", things=["jj"], body=[Either(shows("jj", 60), [])])),
        (("TooLong", 100), Function("fk", things=["kk"], functions=[Function("kl", body=shows("kk", 19))],
                                    body=calls("kl", 5))),
    ]

    def test_each_alone(self):
        for want, function in self.FAULTS:
            self.assertEqual(refusal(Function("main", functions=[function])), want)

    def test_each_two(self):
        for first, (want, one) in enumerate(self.FAULTS):
            for _, other in self.FAULTS[first + 1:]:
                with self.subTest(want=want, other=other.name):
                    self.assertEqual(refusal(Function("main", functions=[one, other])), want)
                    self.assertEqual(refusal(Function("main", functions=[other, one])), want)

    def test_all_at_once(self):
        for first, (want, _) in enumerate(self.FAULTS):
            rest = [function for _, function in self.FAULTS[first:]]
            self.assertEqual(refusal(Function("main", functions=rest)), want)
            self.assertEqual(refusal(Function("main", functions=rest[::-1])), want)

    def test_in_one_body(self):
        def main(*body):
            f = Function("f", ["x"])
            g = Function("g", body=[Give("g")])
            return refusal(Function("main", ["p"], numbers=["n"], functions=[f, g], body=body))

        shape, unknown, kind, count = Show(3), Show("no"), Add("p", 1), Call("f", ["p", "p"])
        self.assertEqual(main(count, kind, unknown, shape), ("InvalidProgram", "main"))
        self.assertEqual(main(count, kind, unknown), ("UnknownName", "no"))
        self.assertEqual(main(count, kind), ("WrongKind", "p"))
        self.assertEqual(main(count), ("WrongCount", "f"))
        self.assertEqual(main(Call("f", ["n", "no"])), ("UnknownName", "no"))
        self.assertEqual(main(Call("f", ["p", "n"])), ("WrongKind", "n"))
        self.assertEqual(main(Call("g", ["p", "no"])), ("UnknownName", "no"))

    def test_duplicates_ahead_of_all_that_bodies_name(self):
        inner = Function("f", body=[Show("no")])
        self.assertEqual(refusal(Function("main", functions=[inner, Function("f")])), ("DuplicateName", "f"))
        main = Function("main", functions=[inner, Function("g", ["main"])])
        self.assertEqual(refusal(main), ("DuplicateName", "main"))
