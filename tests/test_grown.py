import random
import time
import unittest
from unittest import mock

from heldby.errors import TooLong
from heldby.growth import grown, growth, is_grown
from heldby.keepers import Plain, Told, points
from heldby.layouts import Layout
from heldby.limits import MOMENTS
from heldby.programs import Program
from heldby.statements import Add, Call, Either, Function, Give, Show
from heldby.worlds import count_moments, held_at, kept_at, stack_at
from tests import turners
from tests.makers import changed, made_keeper, programs
from tests.plain_growth import faults
from tests.plain_growth_turns import GrowthTurns
from tests.samples import any_values
from tests.test_growth import everywhere, frames


def pair():
    functions = [Function("f", body=[Show("a")]), Function("g", body=[Show("b")])]
    return Program(Function("main", things=["a", "b"], functions=functions, body=[Give("f"), Give("g")]))


def kept_too_much(one, other, world, moment):
    return len(set(kept_at(one, world, moment)) - set(kept_at(other, world, moment)))


def choices_up_to(program, world, moment):
    """How many choices of the last turn are done at a moment: right behind each one a list begins."""
    ends = [stack_at(program, world, at)[-1][1] for at in range(moment + 1)]
    return sum(1 for point in ends if point and len(point) % 2 == 0)


class AnswersTest(unittest.TestCase):
    def told(self, one, other):
        """The answer, which holds by plain means, too."""
        value = grown(one, other)
        self.assertIs(is_grown(one, other, value), True)
        self.assertEqual(faults(one, other, value), [])
        many = growth(one, other)
        self.assertEqual(value[0], "round" if many is None else "most")
        self.assertEqual(len(value), 4 if many is None else 5)
        if many is not None:
            self.assertEqual(value[1], many)
        return value

    def test_examples(self):
        both, plain = Layout(pair(), bundles=[["a", "b"]]), Plain(pair())
        self.assertEqual([growth(both, plain), growth(plain, both), grown(both, plain)[:2]], [1, 0, ("most", 1)])
        program = turners.turning()
        late = Told(program, {}, {("f", (0, 0, 0)): ["x"]})
        self.assertEqual([growth(late, Plain(program)), grown(late, Plain(program))[0], growth(Plain(program), late)],
            [None, "round", 1])
        for one, other in ((both, plain), (plain, both), (late, Plain(program)), (Plain(program), late)):
            self.told(one, other)

    def test_many_programs(self):
        for at, program in enumerate(programs(250)):
            chance = random.Random(at)
            one = made_keeper(chance, program)
            self.told(one, made_keeper(chance, program) if at % 2 else changed(chance, one))

    def test_functions_that_call_themselves(self):
        found = {}
        for program, one, other in turners.turners(200):
            for keepers in ((one, other), (other, one), (one, Told(program, {}, {}))):
                value = self.told(*keepers)
                found[value[0]] = found.get(value[0], 0) + 1
        self.assertGreater(min(found.values()), 100)

    def test_a_growth_of_nothing(self):
        for program in (pair(), turners.turning(), turners.ladder()):
            none = Told(program, {}, {})
            value = self.told(none, Plain(program))
            self.assertEqual(value[:2], ("most", 0))

    def test_closures(self):
        # Only a closure keeps two things; it is made in the second turn.
        h = Function("h", body=[Show("x")])
        g = Function("g", ["y"], functions=[h], body=[Give("h")])
        f = Function("f", ["x"], functions=[g], body=[Give("g")])
        program = Program(Function("main", functions=[f], body=[Give("f")]))
        one, none = Told(program, {"h": ["x", "y"]}, {("h", ()): ["x"]}), Told(program, {}, {})
        value = self.told(one, none)
        self.assertEqual((value[1], value[3]), (2, None))
        self.assertEqual([row[1] for row in held_at(program, value[2], None)], ["h"])
        # If a frame of h keeps as many, both are right.
        self.told(everywhere(program, "h", ["x", "y"]) | one, none)

    def test_rounds_again_and_again(self):
        rounds = 0
        for program, one, other in [
            *[(program, one, Told(program, {}, {})) for program, one, _ in turners.turners(250)],
            (turners.turning(), Told(turners.turning(), {}, {("f", (0, 0, 0)): ["x"]}), Plain(turners.turning())),
            (turners.counting(), Told(turners.counting(), {}, {("f", (1, 0, 0)): ["x"]}), Plain(turners.counting())),
        ]:
            value = self.told(one, other)
            if value[0] != "round":
                continue
            _, world, first, again = value
            closure, things, choices, takes, drops = world[-1]
            begin, end = [choices_up_to(program, world, moment) for moment in (first, again)]
            counts = []
            for times in range(4):
                # In all of these programs the second list of each Either is empty.
                longer = choices[:begin] + choices[begin:end] * times + (1,) * 300
                repeated = [*world[:-1], (closure, things, longer, takes, drops)]
                self.assertEqual(stack_at(program, repeated, first), stack_at(program, world, first))
                at = first + times * (again - first)
                self.assertEqual(stack_at(program, repeated, at)[-1][:2], stack_at(program, world, again)[-1][:2])
                counts.append(kept_too_much(one, other, repeated, at))
            self.assertEqual(counts, sorted(set(counts)))
            rounds += 1
        self.assertGreater(rounds, 40)

    def test_worlds_as_told(self):
        for program, one, other in turners.turners(120):
            value = grown(one, other)
            world = value[2] if value[0] == "most" else value[1]
            self.assertIsInstance(world, list)
            self.assertIsInstance(value, tuple)
            moments = value[3:4] if value[0] == "most" else value[2:]
            for moment in moments:
                held = held_at(program, world, moment)
                self.assertLessEqual(len(held), 1 if moment is None else 0)
                self.assertTrue(moment is None or 0 <= moment < count_moments(program, world))

    def test_long_ways(self):
        # Each call of f by itself takes many moments; the greatest number stands only behind many calls.
        names = [f"x{letter}" for letter in "abcdefg"]
        slow = Function("slow", body=[Add("n", 1)] * 30)
        f = Function("f", names, things=["y"], body=[Either([Call("slow", []), Call("slow", []),
            Call("f", ["y", *names[:-1]])], [])])
        program = Program(Function("main", ["a"], numbers=["n"], functions=[slow, f], body=[Call("f", ["a"] * 7)]))
        one = frames(program, f={(): names})
        value = self.told(one, Told(program, {}, {}))
        self.assertEqual(value[1], 7)
        self.assertGreater(count_moments(program, value[2]), 6 * 64)
        self.assertLess(count_moments(program, value[2]), 8 * 80)

    def test_ways_that_are_too_long_in_one_turn(self):
        # Thirty calls of itself come back to the beginning, each of which takes some thousand moments; a stand in the
        # middle is reached within the limit of a turn only if closures begin new turns.
        slower = Function("slower", body=[Add("n", 1)] * 10)
        slow = Function("slow", body=[Call("slower", [])] * 8)
        names = [f"x{letter}" for letter in "abcdefghij"]
        order = [1, 0, 3, 4, 2, 6, 7, 8, 9, 5]
        turn = Call("f", [names[at] for at in order])
        f = Function("f", names, functions=[Function("again", body=[turn])],
            body=[Give("again"), Either([Call("slow", [])] * 34 + [turn], [])])
        passed = ["a" if at in (0, 2, 5) else "b" for at in range(10)]
        program = Program(Function("main", ["a", "b"], numbers=["n"], functions=[slower, slow, f],
            body=[Call("f", passed)]))
        where = {names[0], names[2], names[5]}
        for rounds in range(29):
            thing = min(where)
            if rounds in (0, 14, 28):
                one = Told(program, {}, {("f", ()): [thing]})
                other = Told(program, {}, {("f", ()): [name for name in names if name not in where]})
                value = grown(one, other)
                self.assertEqual(value[:2], ("most", 1))
                self.assertIs(is_grown(one, other, value), True)
                counts = [count_moments(program, value[2][:at + 1]) for at in range(len(value[2]))]
                self.assertLessEqual(max(counts), MOMENTS)
            where = {names[at] for at in range(10) if names[order[at]] in where}


class BentAnswersTest(unittest.TestCase):
    """Each part of an answer bent by itself."""

    def refused(self, one, other, value):
        self.assertIs(is_grown(one, other, value), False, value)

    def cases(self):
        """Tuples (one, other, answer), with closures, with frames, with nothing too much, and with rounds."""
        both, plain = Layout(pair(), bundles=[["a", "b"]]), Plain(pair())
        ladder = turners.ladder()
        found = [(both, plain), (plain, both), (Told(ladder, {"k": ["a", "b", "c"]}, {}), Told(ladder, {}, {}))]
        for program, one, other in turners.turners(60):
            found += [(one, other), (one, Told(program, {}, {}))]
        return [(one, other, grown(one, other)) for one, other in found]

    def most(self):
        return [row for row in self.cases() if row[2][0] == "most"]

    def rounds(self):
        return [row for row in self.cases() if row[2][0] == "round"]

    def test_any_values(self):
        one, other = Layout(pair(), bundles=[["a", "b"]]), Plain(pair())
        value = grown(one, other)
        late = Told(turners.turning(), {}, {("f", (0, 0, 0)): ["x"]})
        again = grown(late, Plain(turners.turning()))
        for bad in any_values():
            self.refused(one, other, bad)
            for at in range(5):
                if not (at == 1 and bad == 1 and not isinstance(bad, bool)):
                    if not (at == 3 and is_grown(one, other, (*value[:3], bad, value[4]))):
                        self.refused(one, other, (*value[:at], bad, *value[at + 1:]))
            for at in range(4):
                self.refused(late, Plain(turners.turning()), (*again[:at], bad, *again[at + 1:]))
            for at in range(3):
                count = (*value[4][:at], bad, *value[4][at + 1:])
                self.refused(one, other, (*value[:4], count))
                self.refused(one, other, (*value[:4], [*count]))
                rows = value[4][at]
                self.refused(one, other, (*value[:4], (*value[4][:at], (*rows, bad), *value[4][at + 1:])))
                self.refused(one, other, (*value[:4], (*value[4][:at], (bad, *rows), *value[4][at + 1:])))

    def test_lengths_and_words(self):
        for one, other, value in self.cases():
            for bad in (list(value), value[:-1], (*value, None), (*value, 0), value[1:], ("world", *value[1:]),
                ("table", *value[1:]), ("Most", *value[1:]), (None, *value[1:])):
                self.refused(one, other, bad)
            other_word = "round" if value[0] == "most" else "most"
            self.refused(one, other, (other_word, *value[1:]))

    def test_answers_for_other_keepers(self):
        rows = self.cases()
        for one, other, value in rows:
            if value[0] == "round" or value[1] > 0:
                self.refused(other, other, value)
                self.refused(one, one, value)

    def test_other_numbers(self):
        for one, other, value in self.most():
            _, number, world, moment, count = value
            for bad in (number + 1, number - 1, -1, 10 ** 99, str(number), None, bool(number), (number,)):
                self.refused(one, other, ("most", bad, world, moment, count))

    def test_numbers_with_bounds_to_them(self):
        # A world that shows less with a count for it that is not right, and a count for more with the same world.
        for one, other, value in self.most():
            _, number, world, moment, (closures, entered, standing) = value
            more = tuple((stand, bound + 1) for stand, bound in standing)
            self.refused(one, other, ("most", number + 1, world, moment, (closures, entered, more)))
            for at in range(count_moments(one.program, world)):
                if not held_at(one.program, world, at):
                    many = kept_too_much(one, other, world, at)
                    good = ("most", number, world, at, (closures, entered, standing))
                    self.assertIs(is_grown(one, other, good), many == number)
                    if many != number:
                        self.refused(one, other, ("most", many, *good[2:]))

    def test_worlds(self):
        for one, other, value in self.cases():
            at = 2 if value[0] == "most" else 1
            world = value[at]
            last = world[-1]
            longer = [*world, world[-1]]
            for bad in (
                [], None, [None], world[:-1], [*world[:-1], None], [*world[:-1], last[:4]], [*world[:-1], list(last)],
                [*world[:-1], (99, *last[1:])], longer,
                [*world[:-1], (*last[:2], (2,) * 9, *last[3:])], [*world[:-1], (*last[:3], (99,), last[4])],
            ):
                if bad == [] or not isinstance(bad, list) or is_grown(one, other, (*value[:at], bad, *value[at + 1:])):
                    # An earlier turn may show the same; then it is right.
                    if bad and isinstance(bad, list):
                        self.assertEqual(faults(one, other, (*value[:at], bad, *value[at + 1:])), [])
                        continue
                self.refused(one, other, (*value[:at], bad, *value[at + 1:]))
            self.assertIs(is_grown(one, other, (*value[:at], tuple(world), *value[at + 1:])), True)

    def test_worlds_in_which_closures_are_held(self):
        program = pair()
        both, plain = Layout(program, bundles=[["a", "b"]]), Plain(program)
        _, number, _, _, count = grown(both, plain)
        self.assertEqual(number, 1)
        good = [(0, (), (), (), (0,))]
        self.assertIs(is_grown(both, plain, ("most", 1, good, 1, count)), True)
        held = [(0, (), (), (), ())]
        # Main's closure is held, which keeps nothing; but it is held.
        self.refused(both, plain, ("most", 1, held, 1, count))
        self.assertIs(is_grown(both, plain, ("most", 1, [(0, (), (), (0,), (0,))], None, count)), True)
        self.refused(both, plain, ("most", 1, [(0, (), (), (0,), ())], None, count))
        self.refused(both, plain, ("most", 1, [(0, (), (), (0,), (0,))], 1, count))
        self.assertIs(is_grown(both, plain, ("most", 1, [(0, (), (), (0,), (0,)), (1, (), (), (), (1,))], 0, count)),
            True)
        self.refused(both, plain, ("most", 1, [(0, (), (), (0,), (0,)), (1, (), (), (), ())], 0, count))
        none = ("most", 0, [(0, (), (), (0, 1), (0,))], None, grown(plain, both)[4])
        self.refused(plain, both, none)
        self.assertIs(is_grown(plain, both, ("most", 0, [(0, (), (), (1,), (0,))], None, none[4])), True)
        self.assertIs(is_grown(plain, both, ("most", 0, [(0, (), (), (), ())], None, none[4])), True)
        self.assertIs(is_grown(plain, both, ("most", 0, [(0, (), (), (), (0,))], None, none[4])), True)

    def test_moments(self):
        for one, other, value in self.cases():
            if value[0] == "most":
                many = count_moments(one.program, value[2])
                for bad in (-1, many, many + 5, 10 ** 30, True, "0", (0,)):
                    self.refused(one, other, (*value[:3], bad, value[4]))

    def test_counts_with_a_row_left_out(self):
        for one, other, value in self.most():
            for part in range(3):
                rows = value[4][part]
                for at in range(len(rows)):
                    count = (*value[4][:part], rows[:at] + rows[at + 1:], *value[4][part + 1:])
                    self.refused(one, other, (*value[:4], count))

    def test_counts_with_rows_out_of_order(self):
        for one, other, value in self.most():
            for part in range(3):
                rows = value[4][part]
                for at in range(len(rows)):
                    doubled = rows[:at] + (rows[at],) + rows[at:]
                    self.refused(one, other, (*value[:4], (*value[4][:part], doubled, *value[4][part + 1:])))
                    if at:
                        exchanged = rows[:at - 1] + (rows[at], rows[at - 1]) + rows[at + 1:]
                        self.refused(one, other, (*value[:4], (*value[4][:part], exchanged, *value[4][part + 1:])))
                if rows:
                    self.refused(one, other, (*value[:4], (*value[4][:part], list(rows), *value[4][part + 1:])))

    def test_bounds(self):
        for one, other, value in self.most():
            closures, entered, standing = value[4]
            for at, (stand, bound) in enumerate(standing):
                for bad in (bound - 1, -1, True, None, str(bound), (bound,)):
                    if bad is True and bound > 1 or bad is not True or bound <= 1:
                        row = (stand, bad)
                        count = (closures, entered, standing[:at] + (row,) + standing[at + 1:])
                        self.refused(one, other, (*value[:4], count))
                for bad in (stand, (stand,), (stand, bound, 0), [stand, bound], (bound, stand)):
                    count = (closures, entered, standing[:at] + (bad,) + standing[at + 1:])
                    self.refused(one, other, (*value[:4], count))
            doubled = standing[:1] + ((standing[0][0], standing[0][1] + 1),) + standing[1:]
            self.refused(one, other, (*value[:4], (closures, entered, doubled)))

    def bent_stands(self, stand):
        """What is no stand, or not this one."""
        name, groups = stand
        bent = [("nobody", groups), (None, groups), ([name], groups), (name, list(groups)), (name,), [name, groups],
            (name, groups, ()), (name, (*groups, (("zz",), False, False))), (name, None), (name, (None, *groups))]
        if groups:
            names, by_one, by_other = groups[0]
            rest = groups[1:]
            bent += [(name, rest), (name, (groups[0], *groups)), (name, ((list(names), by_one, by_other), *rest)),
                (name, ((names, int(by_one), by_other), *rest)), (name, ((names, by_one, None), *rest)),
                (name, ((names, by_one), *rest)), (name, (((), by_one, by_other), *groups)),
                (name, (((*names, names[0]), by_one, by_other), *rest)), (name, ([names, by_one, by_other], *rest)),
                (name, (((*names, 7), by_one, by_other), *rest)), (name, ((names[0], by_one, by_other), *rest))]
            if len(groups) > 1:
                bent.append((name, groups[::-1]))
                bent.append((name, groups[:-2] + ((groups[-2][0] + groups[-1][0], *groups[-2][1:]),)))
        return bent

    def test_rows_that_are_none(self):
        for one, other, value in self.most()[:25]:
            for part in range(3):
                rows = value[4][part]
                for at, row in enumerate(rows):
                    stand = row[0] if part == 2 else row
                    for bad in self.bent_stands(stand):
                        bent = (bad, row[1]) if part == 2 else bad
                        count = (*value[4][:part], rows[:at] + (bent,) + rows[at + 1:], *value[4][part + 1:])
                        self.refused(one, other, (*value[:4], count))
                        self.assertNotEqual(faults(one, other, (*value[:4], count)), [])

    def test_bools_of_closures_and_of_entered_stands(self):
        for one, other, value in self.most():
            for part in range(2):
                rows = value[4][part]
                for at, (name, groups) in enumerate(rows):
                    for group in range(len(groups)):
                        for bools in ((True, False), (False, True)):
                            changed_groups = groups[:group] + ((groups[group][0], *bools),) + groups[group + 1:]
                            for bent in (rows[:at] + ((name, changed_groups),) + rows[at + 1:],
                                tuple(sorted((*rows, (name, changed_groups))))):
                                count = (*value[4][:part], bent, *value[4][part + 1:])
                                self.refused(one, other, (*value[:4], count))

    def test_greater_counts_are_right_if_all_that_follows_is_there(self):
        # A stand of g that no world reaches, and those to which its calls lead.
        h = Function("h", ["z"], body=[Show("z")])
        g = Function("g", ["x", "y"], body=[Call("h", ["x"])])
        program = Program(Function("main", ["a"], functions=[g, h], body=[Call("g", ["a", "a"]), Call("h", ["a"])]))
        none = Told(program, {}, {})
        _, number, world, moment, (closures, entered, standing) = grown(none, none)
        split = ("g", ((("a",), False, False), (("x", "y"), False, False)))
        more = ("h", ((("a",), False, False), (("z",), False, False)))
        for rows, is_right in (((split, more), True), ((more,), True), ((split,), False)):
            wider = tuple(sorted({*entered, *rows}))
            self.assertIs(is_grown(none, none, ("most", number, world, moment, (closures, wider, standing))), is_right)
            bounded = tuple(sorted({*standing, *[(row, 0) for row in rows]}))
            self.assertIs(is_grown(none, none, ("most", number, world, moment, (closures, entered, bounded))), is_right)
        kept = ("g", ((("a",), True, True), (("x", "y"), False, True)))
        follows = ("h", ((("a",), True, True), (("z",), False, True)))
        bounded = tuple(sorted({*standing, (kept, 0), (follows, 5)}))
        self.refused(none, none, ("most", number, world, moment, (closures, entered, bounded)))
        bounded = tuple(sorted({*standing, (kept, 5), (follows, 5)}))
        self.assertIs(is_grown(none, none, ("most", number, world, moment, (closures, entered, bounded))), True)
        # A closure that nobody gives, with its stand.
        closure, called = ("h", ((("a",), False, False),)), more
        wider = tuple(sorted({*entered, called}))
        bounded = tuple(sorted({*standing, (called, 0)}))
        self.assertIs(is_grown(none, none, ("most", number, world, moment, ((closure,), wider, bounded))), True)
        self.refused(none, none, ("most", number, world, moment, ((closure,), entered, standing)))

    def test_rounds(self):
        rounds = self.rounds()
        self.assertGreater(len(rounds), 15)
        for one, other, value in rounds[:12]:
            _, world, first, again = value
            many = count_moments(one.program, world)
            for bad in ((again, first), (first, first), (again, again), (first, many), (-1, again), (first, None),
                (None, again), (True, again), (first, str(again)), (first, 10 ** 30)):
                self.refused(one, other, ("round", world, *bad))
            for low in range(many):
                for high in range(many):
                    good = ("round", world, low, high)
                    self.assertEqual(is_grown(one, other, good), faults(one, other, good) == [], (low, high))

    def test_rounds_with_a_closure_held(self):
        for one, other, value in self.rounds():
            _, world, first, again = value
            last = world[-1]
            kept = [*world[:-1], (*last[:4], ())]
            self.refused(one, other, ("round", kept, first, again))

    def test_rounds_of_other_activations(self):
        # Main calls f twice: an entry of the first call and one of the second call are no round.
        f = Function("f", ["x"], things=["y"], body=[Either([Call("f", ["y"])], [])])
        program = Program(Function("main", ["a"], functions=[f], body=[Call("f", ["a"]), Call("f", ["a"])]))
        one, other = frames(program, f={(0, 0, 0): ["x"]}), Told(program, {}, {})
        world = [(0, (5,), (0, 0, 1, 0, 0, 1), (), (0,))]
        many = count_moments(program, world)
        entries = [at for at in range(many) if stack_at(program, world, at)[-1][1] == ()]
        self.assertEqual(len(entries), 7)
        right = [(low, high) for low in entries for high in entries if is_grown(one, other,
            ("round", world, low, high))]
        # The stands of the entries behind the first one of each call are equal: x is of the caller, and is gone.
        self.assertEqual(right, [(entries[2], entries[3]), (entries[5], entries[6])])
        for low in range(many):
            for high in range(many):
                value = ("round", world, low, high)
                self.assertEqual(is_grown(one, other, value), faults(one, other, value) == [])

    def test_stands_that_are_not_equal(self):
        # x is exchanged with y: only each second entry has an equal stand, if one of both is kept farther down.
        f = Function("f", ["x", "y"], things=["z"], body=[Either([Call("f", ["y", "x"])], [])])
        program = Program(Function("main", ["a", "b"], functions=[f], body=[Call("f", ["a", "b"])]))
        one, other = frames(program, f={(0, 0, 0): ["z"]}), frames(program, main={(0,): ["a"]})
        world = [(0, (5, 6), (0, 0, 0, 0, 1), (), (0,))]
        many = count_moments(program, world)
        right = [(low, high) for low in range(many) for high in range(many)
            if is_grown(one, other, ("round", world, low, high))]
        # a and x have one thing, or a and y.
        self.assertEqual(right, [(1, 5), (1, 9), (3, 7), (5, 9)])
        for low, high in right:
            self.assertEqual(faults(one, other, ("round", world, low, high)), [])
        # If both have the thing of b, it is b, x and y at each entry.
        same = Program(Function("main", ["a", "b"], functions=[f], body=[Call("f", ["b", "b"])]))
        one, other = frames(same, f={(0, 0, 0): ["z"]}), Told(same, {}, {})
        right = [(low, high) for low in range(many) for high in range(many)
            if is_grown(one, other, ("round", world, low, high))]
        self.assertEqual(len(right), 10)

    def test_bools_of_stands_that_are_not_equal(self):
        # Main keeps b by one: that begins at once. f keeps x by one at its call: so at its first entry it does not yet.
        f = Function("f", ["x"], things=["z"], body=[Either([Call("f", ["x"])], [])])
        program = Program(Function("main", ["a"], functions=[f], body=[Call("f", ["a"])]))
        world, none = [(0, (5,), (0, 0, 1), (), (0,))], Told(program, {}, {})
        lost = frames(program, f={(0, 0, 0): ["z"]})
        for one, other, right in (
            (lost, none, [(1, 3), (1, 5), (3, 5)]),
            (lost | frames(program, main={(0,): ["a"]}), none, [(1, 3), (1, 5), (3, 5)]),
            (lost | frames(program, f={(0, 0, 0): ["x"]}), none, [(3, 5)]),
            (lost, frames(program, f={(0, 0, 0): ["x"]}), [(3, 5)]),
            (lost, frames(program, f={(0, 0, 0): ["z"]}), []),
            (lost, frames(program, f={(0,): ["x"], (): ["z"]}), [(1, 3), (1, 5), (3, 5)]),
        ):
            found = [(low, high) for low in range(9) for high in range(9)
                if is_grown(one, other, ("round", world, low, high))]
            self.assertEqual(found, right)

    def test_equal_things_of_the_world_are_one_group(self):
        f = Function("f", ["x"], things=["y"], body=[Either([Call("f", ["x"])], [])])
        program = Program(Function("main", ["a", "b"], functions=[f], body=[Call("f", ["a"])]))
        one = frames(program, f={(0, 0, 0): ["y"]})
        for things in ((5, 5), (5, 6)):
            world = [(0, things, (0, 0, 1), (), (0,))]
            value = ("round", world, 1, 3)
            self.assertEqual(is_grown(one, Told(program, {}, {}), value), True)
            self.assertEqual(faults(one, Told(program, {}, {}), value), [])
        other = frames(program, main={(0,): ["b"]})
        one = frames(program, f={(0, 0, 0): ["y"]}) | frames(program, f={(0, 0, 0): ["x"]})
        for things in ((5, 5), (5, 6)):
            # x of f is a of main: it is b, too, if the world passes equal things; else the first stand differs.
            value = ("round", [(0, things, (0, 0, 1), (), (0,))], 1, 3)
            self.assertEqual(is_grown(one, other, value), faults(one, other, value) == [])


    def test_rows_that_are_none_beside_the_right_ones(self):
        """Further rows of h, which calls and gives nothing, so that nothing else must follow."""
        h = Function("h", ["z", "w"], body=[Show("z")])
        program = Program(Function("main", ["a", "b"], functions=[h], body=[Call("h", ["a", "b"]), Give("h")]))
        none = Told(program, {}, {})
        _, number, world, moment, parts = grown(none, none)
        stand = ((("a",), False, False), (("b",), False, False), (("w",), False, False), (("z",), False, False))
        right = {
            0: ((("a", "b"), False, False),), 1: ((("a", "b", "w"), False, False), (("z",), False, False)),
            2: ((("a", "b", "w"), True, False), (("z",), False, True)),
        }
        wrong = [
            (), stand[1:], stand[:2], (*stand, (("zz",), False, False)), (*stand[:3], (("w", "z"), False, False)),
            (*stand[:3], (("z", "z"), False, False)), ((("b", "a"), False, False), *stand[2:]), stand[::-1],
            ((("a",), False, False), *stand), (((), False, False), *stand), (*stand[:2], stand[3], stand[2]),
            ((("a", "c"), False, False), *stand[1:]), ((("a", "a"), False, False), *stand[1:]),
            ((("a", "b"), False, False), (("y", "z"), False, False)), ((("a", "b", "w", "y", "z"), False, False),),
        ]
        for part in range(3):
            for groups in [right[part], *wrong]:
                row = ("h", groups)
                rows = tuple(sorted({*parts[part], (row, 5) if part == 2 else row}))
                count = [*parts]
                count[part] = rows
                if part == 0:
                    # What a closure leads to is there, too, whatever it is.
                    called = ("h", tuple(sorted([*groups, *stand[2:]])))
                    count[1] = tuple(sorted({*parts[1], called}))
                    count[2] = tuple(sorted({*parts[2], *([(called, 0)] if called != ("h", stand) else [])}))
                value = ("most", number, world, moment, tuple(count))
                is_right = groups in (right[part], stand[:2] if part == 0 else stand)
                self.assertIs(is_grown(none, none, value), is_right, (part, groups))
                self.assertEqual(faults(none, none, value) == [], is_right)
            for bools in ((True, False), (False, True)):
                row = ("h", ((("a", "b"), *bools), *(stand[2:] if part else ())))
                rows = tuple(sorted({*parts[part], (row, 5) if part == 2 else row}))
                value = ("most", number, world, moment, (*parts[:part], rows, *parts[part + 1:]))
                self.assertIs(is_grown(none, none, value), part == 2)

    def test_rounds_while_a_closure_is_taken(self):
        # Each frame of f gives g ahead of its call: if the world takes one, it is held at all later moments.
        g = Function("g", body=[Show("a")])
        f = Function("f", ["x"], things=["y"], body=[Give("g"), Either([Call("f", ["y"])], [])])
        program = Program(Function("main", ["a"], functions=[f, g], body=[Call("f", ["a"])]))
        one, none = frames(program, f={(1, 0, 0): ["x"]}), Told(program, {}, {})
        for takes, right in (((), [(5, 8), (5, 11), (8, 11)]), ((0,), []), ((1,), []), ((2,), [(5, 8)]),
            ((3,), [(5, 8), (5, 11), (8, 11)])):
            world = [(0, (7,), (0, 0, 0, 1), takes, (0,))]
            entries = [at for at in range(16) if stack_at(program, world, at)[-1][1] == ()]
            self.assertEqual(entries, [0, 1, 4, 7, 10])
            found = [(low, high) for low in entries for high in entries if is_grown(one, none,
                ("round", world, low, high))]
            shifted = [(low - 1, high - 1) for low, high in right]
            self.assertEqual(found, shifted)

    def test_things_that_are_not_left_behind(self):
        # x is kept too much all the while, but each frame of f has it: so nothing is left behind.
        program = turners.staying()
        one, none = everywhere(program, "f", ["x"]), Told(program, {}, {})
        world = [(0, (5,), (0, 0, 0, 1), (), (0,))]
        many = count_moments(program, world)
        for low in range(many):
            for high in range(many):
                self.refused(one, none, ("round", world, low, high))

    def test_all_pairs_of_moments(self):
        right = 0
        for at, (program, one, other) in enumerate(turners.turners(90)):
            chance = random.Random(at)
            other = Told(program, {}, {}) if at % 2 else other
            world = [(0, (5,), tuple(chance.choice([0, 0, 0, 1]) for _ in range(7)) + (1,) * 60, (), (0,))]
            many = count_moments(program, world)
            entries = [moment for moment in range(many) if stack_at(program, world, moment)[-1][1] == ()][:9]
            for low in entries:
                for high in entries:
                    value = ("round", world, low, high)
                    found = is_grown(one, other, value)
                    self.assertEqual(found, faults(one, other, value) == [])
                    right += found
        self.assertGreater(right, 10)


class ShortestTurnsTest(unittest.TestCase):
    """With a lower limit of moments: worlds are found as long as there are any whose turns are not longer."""

    def found(self, one, other, limit):
        with mock.patch("heldby.routes.MOMENTS", limit), mock.patch("heldby.growth.MOMENTS", limit):
            with mock.patch("heldby.plays.MOMENTS", limit):
                try:
                    return grown(one, other)
                except TooLong as error:
                    self.assertEqual(error.limit, limit)
                    return None

    def check(self, one, other, most):
        """The least limit with which there is an answer, up to most."""
        many = growth(one, other)
        least = GrowthTurns(one, other, many).least(most)
        for limit in range(1, most + 1) if least is None else range(max(1, least - 2), least + 3):
            value = self.found(one, other, limit)
            self.assertEqual(value is None, least is None or limit < least, (limit, least))
            if value is not None:
                self.assertEqual(faults(one, other, value), [])
                world = value[2] if value[0] == "most" else value[1]
                counts = [count_moments(one.program, world[:at + 1]) for at in range(len(world))]
                self.assertLessEqual(max(counts), limit)
        return many, least

    def test_many_programs(self):
        found = {}
        small = [program for program in programs(300, 2) if sum(len(points(program, f)) for f in program.used) < 22]
        for at, program in enumerate(small):
            chance = random.Random(at)
            one, other = made_keeper(chance, program), made_keeper(chance, program)
            many, least = self.check(one, other, 13)
            if many != 0:
                found[least] = found.get(least, 0) + 1
        self.assertGreater(len(found), 6)

    def test_functions_that_call_themselves(self):
        found = {}
        for at, (program, one, other) in enumerate(turners.turners(400)):
            is_round = growth(one, other) is None
            if sum(len(points(program, f)) for f in program.used) < 20 and (is_round or at < 100):
                many, least = self.check(one, other, 17 if is_round else 12)
                found[(many is None, least is None)] = found.get((many is None, least is None), 0) + 1
        self.assertGreater(min(found[(True, False)], found[(False, False)]), 5)

    def test_rounds_with_other_rounds_that_are_too_long(self):
        # The one round takes a slow call each time, the other one does not.
        slow = Function("slow", body=[Add("n", 1)] * 9)
        f = Function("f", ["x"], things=["y"],
            body=[Either([Call("slow", []), Call("f", ["y"])], [Either([Show("x"), Call("f", ["y"])], [])])])
        program = Program(Function("main", ["a"], numbers=["n"], functions=[slow, f], body=[Call("f", ["a"])]))
        none = Told(program, {}, {})
        for kept in ({(0, 0, 1): ["x"]}, {(0, 1, 0, 0, 1): ["x"]}, {(0, 0, 1): ["x"], (0, 1, 0, 0, 1): ["x"]}):
            one = frames(program, f=kept)
            least = GrowthTurns(one, none, None).least(40)
            self.assertIsNone(self.found(one, none, least - 1))
            self.assertEqual(faults(one, none, self.found(one, none, least)), [])


class TimeTest(unittest.TestCase):
    def test_near_the_limit_of_stands(self):
        program = turners.crowd(*turners.FULL)
        none = Told(program, {}, {})
        closures = Told(program, {}, {("fa", ()): program.chain_things("fa")})
        began = time.perf_counter()
        value = grown(closures, none)
        self.assertEqual(value[1], 7)
        self.assertIs(is_grown(closures, none, value), True)
        self.assertLess(time.perf_counter() - began, 20)

    def test_rounds_near_the_limit_of_stands(self):
        f = turners.mixing("f", 6)
        own = Function("f", f.parameters, things=["y"],
            body=[*f.body, Either([Call("f", ["y", *f.parameters[1:]])], [])])
        program = Program(Function("main", functions=[own], body=[Give("f")]))
        one = frames(program, f={(1, 0, 0): ["fa"]})
        began = time.perf_counter()
        value = grown(one, Told(program, {}, {}))
        self.assertEqual(value[0], "round")
        self.assertIs(is_grown(one, Told(program, {}, {}), value), True)
        self.assertLess(time.perf_counter() - began, 20)

    def test_long_worlds(self):
        program = turners.turning()
        late, plain = Told(program, {}, {("f", (0, 0, 0)): ["x"]}), Plain(program)
        world = [(0, (5,), (0,) * 24000 + (1,), (), (0,))]
        many = count_moments(program, world)
        self.assertGreater(many, 90000)
        began = time.perf_counter()
        self.assertIs(is_grown(late, plain, ("round", world, 3, 3 + 2 * 20000)), True)
        self.assertIs(is_grown(late, plain, ("round", world, 3, 4 + 2 * 20000)), False)
        self.assertIs(is_grown(late, plain, ("most", 20000, world, 3 + 2 * 20000, ((), (), ()))), False)
        self.assertLess(time.perf_counter() - began, 20)


if __name__ == "__main__":
    unittest.main()
