import random
import time
import unittest

from heldby.errors import InvalidWorld, TooLong, UnknownMoment
from heldby.keepers import Plain, Told, points
from heldby.layouts import Layout
from heldby.limits import MOMENTS
from heldby.programs import Program
from heldby.statements import Add, Call, Either, Function, Give, Show
from heldby.worlds import count_moments, held_at, kept_at, shows_of, stack_at
from tests.makers import made_keeper, made_world, programs
from tests.plain_worlds import Played
from tests.samples import any_values, nested_eithers


def counting():
    """main gives f, which shares the number n of main and has a number m; g in f adds to both."""
    g = Function("g", body=[Add("m", 1), Add("n", 10), Show("m"), Show("n")])
    f = Function("f", ["x"], things=["y"], numbers=["m"], functions=[g],
                 body=[Add("m", 5), Give("g"), Add("n", 100), Show("m"), Show("x"), Show("y")])
    return Program(Function("main", ["a"], numbers=["n"], functions=[f], body=[Show("n"), Give("f"), Call("f", ["a"])]))


def turning():
    """f calls itself as often as the world likes, with its own thing y, and then shows x."""
    f = Function("f", ["x"], things=["y"], numbers=["k"], functions=[Function("g",
        body=[Show("x"), Show("y"), Show("k")])],
                 body=[Add("k", 1), Either([Call("f", ["y"]), Add("k", 1)], [Give("g")]), Show("x")])
    return Program(Function("main", ["a"], things=["b"], functions=[f], body=[Call("f", ["a"])]))


def looping():
    """A turn of main with n + 1 choices, n ones ahead of a zero, has 5 + 4 * n moments, and s more with s shows."""
    f = Function("f", ["x"], body=[Either([Either([Show("x")], [])], [Call("f", ["x"])])])
    return Program(Function("main", ["a"], functions=[f], body=[Call("f", ["a"])]))


class MomentsTest(unittest.TestCase):
    """What stands at each moment."""

    def test_a_single_frame(self):
        program = Program(Function("main", ["a"], things=["b"], numbers=["n"],
            body=[Show("a"), Add("n", 2), Show("n")]))
        world = [(0, (7,), (), (), ())]
        self.assertEqual(count_moments(program, world), 4)
        things = {"a": 7, "b": -1}
        for moment, point in enumerate([(), (0,), (1,), (2,)]):
            self.assertEqual(stack_at(program, world, moment), [("main", point, things)])
        self.assertEqual(stack_at(program, world, None), [])
        self.assertEqual(shows_of(program, world), [[("a", 7), ("n", 2)]])

    def test_an_empty_body(self):
        program = Program(Function("main", ["a"]))
        self.assertEqual(count_moments(program, [(0, (3,), (), (), ())]), 1)
        self.assertEqual(stack_at(program, [(0, (3,), (), (), ())], 0), [("main", (), {"a": 3})])

    def test_a_call(self):
        f = Function("f", ["x"], things=["y"], body=[Show("x")])
        body = [Show("a"), Call("f", ["a"]), Call("f", ["b"])]
        program = Program(Function("main", ["a"], things=["b"], functions=[f], body=body))
        world = [(0, (5,), (), (), ())]
        main, first, second = {"a": 5, "b": -1}, {"a": 5, "b": -1, "x": 5, "y": -2}, {"a": 5, "b": -1, "x": -1, "y": -3}
        want = [
            [("main", (), main)], [("main", (0,), main)],
            # The frame that calls is at the point behind the call as soon as the called function is entered.
            [("main", (1,), main), ("f", (), first)], [("main", (1,), main), ("f", (0,), first)],
                [("main", (1,), main)],
            [("main", (2,), main), ("f", (), second)], [("main", (2,), main), ("f", (0,), second)],
                [("main", (2,), main)],
        ]
        self.assertEqual(count_moments(program, world), len(want))
        self.assertEqual([stack_at(program, world, moment) for moment in range(len(want))], want)
        self.assertEqual(shows_of(program, world), [[("a", 5), ("x", 5), ("x", -1)]])

    def test_eithers(self):
        body = [Either([Show("a")], [Either([], [Show("a"), Show("a")]), Show("a")]), Show("a")]
        program = Program(Function("main", ["a"], body=body))

        def places(*choices):
            world = [(0, (1,), choices, (), ())]
            return [stack_at(program, world, moment)[0][1] for moment in range(count_moments(program, world))]

        self.assertEqual(places(0), [(), (0, 0), (0, 0, 0), (0,), (1,)])
        self.assertEqual(places(1, 0), [(), (0, 1), (0, 1, 0, 0), (0, 1, 0), (0, 1, 1), (0,), (1,)])
        self.assertEqual(places(1, 1), [
            (), (0, 1), (0, 1, 0, 1), (0, 1, 0, 1, 0), (0, 1, 0, 1, 1), (0, 1, 0), (0, 1, 1), (0,), (1,),
        ])
        # What is left over is not used.
        self.assertEqual(places(0, 1, 1, 0), places(0))

    def test_sixty_eithers_in_each_other(self):
        program = Program(Function("main", body=[nested_eithers(60)]))
        world = [(0, (), tuple(0 if at % 2 else 1 for at in range(60)), (), ())]
        places = [stack_at(program, world, moment)[0][1] for moment in range(count_moments(program, world))]
        self.assertEqual(len(places), 121)
        self.assertEqual(set(places) | {(0, 0)}, set(points(program, "main")) & set(places) | {(0, 0)})

    def test_a_call_of_a_function_by_itself(self):
        program = turning()
        world = [(0, (9,), (0, 0, 1), (0,), ())]
        main = {"a": 9, "b": -1}
        one, two, three = {**main, "x": 9, "y": -2}, {**main, "x": -2, "y": -3}, {**main, "x": -3, "y": -4}
        stack = [("main", (0,), main), ("f", (1, 0, 0), one), ("f", (1, 0, 0), two), ("f", (1, 1, 0), three)]
        self.assertEqual(stack_at(program, world, 10), stack)
        self.assertEqual([frame[1] for frame in stack_at(program, world, 7)], [(0,), (1, 0, 0), (1, 0, 0), ()])
        self.assertEqual(shows_of(program, world), [[("x", -3), ("x", -2), ("x", 9)]])
        # The closure belongs to the activation that gave it, with its own number.
        self.assertEqual(held_at(program, world, None), [(0, "main", {}), (1, "g", three)])
        self.assertEqual(shows_of(program, world + [(1, (), (), (), ())])[1], [("x", -3), ("y", -4), ("k", 1)])

    def test_every_moment_and_none(self):
        program = turning()
        world = [(0, (9,), (0, 1), (), ())]
        self.assertEqual(count_moments(program, world), 15)
        stacks = [len(stack_at(program, world, moment)) for moment in range(15)]
        self.assertEqual(stacks, [1, 2, 2, 2, 3, 3, 3, 3, 3, 3, 2, 2, 2, 2, 1])
        self.assertEqual(stack_at(program, world, None), [])
        for keeper in (Plain(program), Layout.chained(program)):
            self.assertEqual(kept_at(keeper, world, None), ())


class NumbersTest(unittest.TestCase):
    def test_begin_with_zero_at_each_entry_and_are_shared(self):
        program = counting()
        world = [(0, (4,), (), (0, 1), ()), (2, (), (), (), ()), (1, (8,), (), (0,), ()), (2, (), (), (), ()),
            (3, (), (), (), ()),
                 (0, (6,), (), (), ()), (2, (), (), (), ())]
        self.assertEqual(shows_of(program, world), [
            [("n", 0), ("m", 5), ("x", 4), ("y", -1)],
            [("m", 6), ("n", 110)],
            [("m", 5), ("x", 8), ("y", -2)],
            [("m", 7), ("n", 220)],
            [("m", 6), ("n", 230)],
            [("n", 0), ("m", 5), ("x", 6), ("y", -3)],
            [("m", 8), ("n", 240)],
        ])

    def test_closures_have_numbers_in_the_order_in_which_they_are_taken(self):
        program = counting()
        world = [(0, (4,), (), (1,), ()), (0, (5,), (), (0,), ()), (2, (6,), (), (0,), (1,))]
        self.assertEqual(held_at(program, world[:1], None), [(0, "main", {}), (1, "g", {"a": 4, "x": 4, "y": -1})])
        self.assertEqual(held_at(program, world[:2], None)[2], (2, "f", {"a": 5}))
        self.assertEqual(held_at(program, world, None),
                         [(0, "main", {}), (2, "f", {"a": 5}), (3, "g", {"a": 5, "x": 6, "y": -3})])


class OwnThingsTest(unittest.TestCase):
    def test_in_the_order_in_which_they_are_made(self):
        f = Function("f", things=["d", "c"], body=[Show("c"), Show("d")])
        program = Program(Function("main", things=["b", "a"], functions=[f],
            body=[Call("f", []), Show("a"), Call("f", [])]))
        turn = (0, (), (), (), ())
        self.assertEqual(shows_of(program, [turn, turn]), [
            [("c", -4), ("d", -3), ("a", -2), ("c", -6), ("d", -5)],
                [("c", -10), ("d", -9), ("a", -8), ("c", -12), ("d", -11)],
        ])
        self.assertEqual(stack_at(program, [turn], 1)[1], ("f", (), {"b": -1, "a": -2, "d": -3, "c": -4}))

    def test_the_world_passes_what_it_likes(self):
        program = Program(Function("main", ["a", "b"], body=[Show("a"), Show("b")]))
        for things in ((0, 0), (10 ** 30, 0), (1, 10 ** 30), (3, 3)):
            self.assertEqual(shows_of(program, [(0, things, (), (), ())]), [[("a", things[0]), ("b", things[1])]])
            self.assertEqual(kept_at(Plain(program), [(0, things, (), (), ())], 0), tuple(sorted(set(things))))


class HeldTest(unittest.TestCase):
    def setUp(self):
        f = Function("f", ["x"], body=[Give("g")], functions=[Function("g", body=[Show("x")])])
        self.program = Program(Function("main", ["a"], functions=[f], body=[Give("f"), Call("f", ["a"]), Give("f")]))

    def numbers(self, world, moment):
        return [row[0] for row in held_at(self.program, world, moment)]

    def test_held_from_the_moment_behind_the_give_on(self):
        world = [(0, (1,), (), (0, 1, 2), ())]
        held = [self.numbers(world, moment) for moment in range(count_moments(self.program, world))]
        self.assertEqual(held, [[0], [0, 1], [0, 1], [0, 1, 2], [0, 1, 2], [0, 1, 2, 3]])
        self.assertEqual(self.numbers(world, None), [0, 1, 2, 3])
        self.assertEqual(held_at(self.program, world, 3), [(0, "main", {}), (1, "f", {"a": 1}),
            (2, "g", {"a": 1, "x": 1})])

    def test_refused(self):
        for takes in ((), (0,), (1,), (2,), (0, 2), (1, 2)):
            world = [(0, (1,), (), takes, ())]
            rows = held_at(self.program, world, None)
            self.assertEqual([row[0] for row in rows], list(range(len(takes) + 1)))
            self.assertEqual([row[1] for row in rows[1:]], [("f", "g", "f")[number] for number in takes])

    def test_drops_ahead_of_the_entry(self):
        world = [(0, (1,), (), (0, 1, 2), ())]
        self.assertEqual(self.numbers(world + [(1, (2,), (), (), (0, 1, 3))], 0), [2])
        self.assertEqual(self.numbers(world + [(1, (2,), (), (0,), (1, 3))], None), [0, 2, 4])
        self.assertEqual(self.numbers(world + [(2, (), (), (), (0, 1, 2, 3))], None), [])
        self.assertEqual(self.numbers([(0, (1,), (), (), (0,))], 0), [])
        self.assertEqual(self.numbers([(0, (1,), (), (0,), (0,))], None), [1])

    def test_kept_by_frames_and_closures(self):
        told = Told(self.program, {"f": ["a"], "g": ["x"]}, {("main", (1,)): ["a"], ("f", ()): ["x", "a"]})
        world = [(0, (1,), (), (0,), ()), (1, (2,), (), (0,), (0,)), (2, (), (), (), (1,))]
        self.assertEqual([kept_at(told, world[:1], moment) for moment in range(6)], [(), (1,), (1,), (1,), (1,), (1,)])
        self.assertEqual([kept_at(told, world[:2], moment) for moment in (0, 1, None)], [(1, 2), (1, 2), (1, 2)])
        self.assertEqual([kept_at(told, world, moment) for moment in (0, 1, None)], [(2,), (2,), (2,)])
        self.assertEqual(kept_at(told, [(0, (1,), (), (), ())], 2), (1,))
        self.assertEqual(kept_at(told, [(0, (1,), (), (), ())], 5), ())


class ManyWorldsTest(unittest.TestCase):
    """Against a player that works by plain means."""

    def test_many_worlds(self):
        looked = 0
        for at, program in enumerate(programs(130)):
            chance = random.Random(at)
            keepers = [made_keeper(chance, program) for _ in range(2)]
            for _ in range(2):
                world = made_world(chance, program, chance.randint(1, 5))
                if world:
                    looked += self.look(program, world, keepers)
        self.assertGreater(looked, 2000)

    def look(self, program, world, keepers):
        played = Played(program, world)
        self.assertEqual(shows_of(program, world), played.shows)
        many = count_moments(program, world)
        self.assertEqual(many, len(played.seen) - 1)
        for moment in [*range(many), None]:
            at = -1 if moment is None else moment
            self.assertEqual(stack_at(program, world, moment), played.stack_at(at))
            self.assertEqual(held_at(program, world, moment), played.held_at(at))
            for keeper in keepers:
                self.assertEqual(kept_at(keeper, world, moment), played.kept_at(keeper, at))
        return many

    def test_kinds_of_results(self):
        for at, program in enumerate(programs(20)):
            world = made_world(random.Random(at), program, 3)
            if not world:
                continue
            for name, point, things in stack_at(program, world, 0):
                self.assertEqual([type(name), type(point), type(things)], [str, tuple, dict])
                self.assertEqual(tuple(things), program.chain_things(name))
            for row in held_at(program, world, None):
                self.assertEqual([type(part) for part in row], [int, str, dict])
            kept = kept_at(Plain(program), world, None)
            self.assertIsInstance(kept, tuple)
            self.assertEqual(list(kept), sorted(set(kept)))


def looks(program, keeper):
    """All that looks at a world, by one argument."""
    return [
        lambda world: stack_at(program, world, None), lambda world: held_at(program, world, None),
        lambda world: kept_at(keeper, world, None), lambda world: count_moments(program, world),
        lambda world: shows_of(program, world), lambda world: stack_at(program, world, "no moment"),
        lambda world: held_at(program, world, True), lambda world: kept_at(keeper, world, -1),
    ]


class ErrorsTest(unittest.TestCase):
    def setUp(self):
        f = Function("f", ["x", "y"], functions=[Function("g", body=[Show("x")])],
                     body=[Either([Give("g")], [Either([], [Give("g"), Give("g")])])])
        self.program = Program(Function("main", ["a"], functions=[f], body=[Give("f"), Give("f")]))
        self.looks = looks(self.program, Layout.chained(self.program))
        self.first = (0, (1,), (), (0, 1), ())

    def refused(self, world, index):
        for look in self.looks:
            with self.assertRaises(InvalidWorld) as caught:
                look(world)
            self.assertEqual(vars(caught.exception), {"index": index}, world)

    def fine(self, world):
        for look in self.looks[:5]:
            look(world)

    def test_no_list(self):
        for value in any_values() + ["world", [], (), {0: self.first}]:
            if not isinstance(value, (list, tuple)) or not value:
                self.refused(value, -1)

    def test_a_tuple_may_be_passed(self):
        self.fine([self.first])
        self.assertEqual(held_at(self.program, (self.first,), None), held_at(self.program, [self.first], None))

    def test_no_turn(self):
        wrong = any_values() + [
            list(self.first), self.first[:4], (*self.first, ()), (), (self.first,), {0: 1}, (0, 1, 2, 3, 4), "abcde",
        ]
        for value in wrong:
            self.refused([value], 0)
            self.refused([value, None], 0)
            self.refused([self.first, value, None], 1)

    def test_wrong_parts(self):
        fine = (2, (1, 2), (1, 1, 0), (0, 1), (1,))
        self.fine([self.first, fine])
        spoiled = {
            0: any_values() + [3, -1, True, False, (0,), 10 ** 30],
            1: any_values() + [(1,), (1, 2, 3), (1, True), (False, 1), (1, -1), (1, 10 ** 30 + 1), [1, 2], (1, None),
                (1, "2"), (1, (2,))],
            2: any_values() + [(1, 1, 2), (-1,), (True,), (1, False), [1, 1], (1, 1, None), (None,), ("0",), (2,),
                ((1,),)],
            3: any_values() + [(1, 0), (0, 0), (True,), (0, True), (-1, 0), [0], (None,), ("0",), (0, 1, 1), ((0,),),
                (False, 1)],
            4: any_values() + [(2, 1), (1, 1), (True,), (3,), (-1,), [1], (None,), ("1",), (0, 1, 2, 3), ((1,),),
                (False, 1)],
        }
        for at, values in spoiled.items():
            for value in values:
                turn = (*fine[:at], value, *fine[at + 1:])
                if at in (2, 3, 4) and value == ():
                    continue
                if at == 0 and type(value) is int and value in (0, 1, 2):
                    continue
                self.refused([self.first, turn], 1)
                self.refused([self.first, turn, None], 1)

    def test_closures_that_are_not_held(self):
        self.refused([(1, (1, 2), (0,), (), ())], 0)
        self.refused([self.first, (3, (), (), (), ())], 1)
        self.refused([(0, (1,), (), (1,), ()), (2, (1, 2), (0,), (), ())], 1)
        dropped = (1, (3, 4), (0,), (0,), (0, 1))
        self.fine([self.first, dropped, (2, (3, 4), (0,), (), ()), (3, (), (), (), ())])
        self.refused([self.first, dropped, (1, (3, 4), (0,), (), ())], 2)
        self.refused([self.first, dropped, (0, (1,), (), (), ())], 2)
        self.refused([self.first, dropped, (2, (3, 4), (0,), (), (0,))], 2)
        # What this turn takes is not held ahead of it.
        self.refused([self.first, (1, (3, 4), (0,), (0,), (3,))], 1)
        self.refused([(0, (1,), (), (), (0,)), (0, (1,), (), (), ())], 1)

    def test_other_counts_of_things(self):
        for things in ((), (1, 2)):
            self.refused([(0, things, (), (), ())], 0)
        for things in ((), (1,), (1, 2, 3)):
            self.refused([self.first, (1, things, (0,), (), ())], 1)

    def test_choices_that_do_not_suffice(self):
        for choices in ((), (1,)):
            self.refused([self.first, (1, (1, 2), choices, (), ())], 1)
            self.refused([self.first, (1, (1, 2), choices, (7,), ()), None], 1)
        for choices in ((0,), (1, 0), (1, 1), (0, 0, 1, 1)):
            self.fine([self.first, (1, (1, 2), choices, (), ())])

    def test_takes_that_no_give_has(self):
        for choices, many in (((0,), 1), ((1, 0), 0), ((1, 1), 2), ((0, 1), 1)):
            self.fine([self.first, (1, (1, 2), choices, tuple(range(many)), ())])
            for takes in ((many,), tuple(range(many + 1)), (10 ** 99,)):
                self.refused([self.first, (1, (1, 2), choices, takes, ())], 1)
                self.refused([self.first, (1, (1, 2), choices, takes, ()), None], 1)

    def test_the_first_wrong_turn(self):
        self.refused([self.first, (1, (1, 2), (), (), ()), (9, (), (), (), ())], 1)
        self.refused([self.first, (9, (), (), (), ()), (1, (1, 2), (), (), ())], 1)
        self.refused([(0, (1,), (), (2,), ()), None], 0)

    def test_unknown_moments(self):
        world = [self.first, (1, (1, 2), (1, 1), (), ())]
        many = count_moments(self.program, world)
        self.assertEqual(many, 7)
        keeper = Plain(self.program)
        for value in any_values() + [many, many + 1, -1, MOMENTS, MOMENTS + 1, "0", (0,), [0], 10 ** 30]:
            if value is None or (type(value) is int and 0 <= value < many):
                continue
            for look, first in ((stack_at, self.program), (held_at, self.program), (kept_at, keeper)):
                with self.assertRaises(UnknownMoment) as caught:
                    look(first, world, value)
                self.assertIs(caught.exception.value, value)
        # Moments are those of the last turn alone.
        self.assertEqual(count_moments(self.program, [self.first]), 3)
        with self.assertRaises(UnknownMoment):
            stack_at(self.program, [world[0]], 3)
        with self.assertRaises(UnknownMoment):
            stack_at(self.program, [world[0], world[1], (0, (1,), (), (), ())], 6)

    def test_by_name(self):
        world = [self.first]
        self.assertEqual(stack_at(program=self.program, world=world, moment=0), stack_at(self.program, world, 0))
        self.assertEqual(held_at(program=self.program, world=world, moment=0), held_at(self.program, world, 0))
        self.assertEqual(kept_at(keeper=Layout(self.program), world=world, moment=0), ())
        self.assertEqual(count_moments(program=self.program, world=world), 3)
        self.assertEqual(shows_of(program=self.program, world=world), [[]])


class LongWorldsTest(unittest.TestCase):
    def turn(self, many):
        """A turn of `looping` with so many moments."""
        rounds, shows = divmod(many - 7, 4)
        assert shows in (0, 1)
        return (0, (5,), (1,) * rounds + (0, 1 - shows), (), ())

    def test_counts(self):
        program = looping()
        for many in (7, 8, 11, 12, 4 * 100 + 7, 4 * 100 + 8):
            self.assertEqual(count_moments(program, [self.turn(many)]), many)

    def test_up_to_the_limit(self):
        # One moment more by a show in main.
        f = looping().main.functions[0]
        longer = Program(Function("main", ["a"], functions=[f], body=[Call("f", ["a"]), Show("a")]))
        two_longer = Program(Function("main", ["a"], functions=[f], body=[Call("f", ["a"]), Show("a"), Show("a")]))
        turn = self.turn(MOMENTS - 1)
        began = time.perf_counter()
        self.assertEqual(count_moments(looping(), [turn]), MOMENTS - 1)
        self.assertEqual(count_moments(longer, [turn]), MOMENTS)
        for look in looks(two_longer, Plain(two_longer)):
            with self.assertRaises(TooLong) as caught:
                look([turn])
            self.assertEqual(vars(caught.exception), {"limit": 100000})
        self.assertEqual(len(stack_at(longer, [turn], MOMENTS - 1)), 1)
        stack = stack_at(longer, [turn], MOMENTS // 2)
        self.assertEqual(stack[0], ("main", (0,), {"a": 5}))
        self.assertGreater(len(stack), 20000)
        self.assertEqual(kept_at(Plain(longer), [turn], MOMENTS // 2), (5,))
        with self.assertRaises(UnknownMoment):
            stack_at(longer, [turn], MOMENTS)
        self.assertLess(time.perf_counter() - began, 20)

    def test_the_limit_is_for_each_turn(self):
        turn = self.turn(60000 - 1)
        self.assertEqual(count_moments(looping(), [turn] * 3), 60000 - 1)

    def test_the_order_of_the_errors(self):
        program = looping()
        too_long, endless = self.turn(MOMENTS + 3), (0, (5,), (1,) * 60000, (), ())
        for world in ([too_long], [too_long, None], [endless], [(0, (5,), endless[2], (0,), ())]):
            with self.assertRaises(TooLong):
                count_moments(program, world)
        for world, index in (([None, too_long], 0), ([(0, (5,), (1,) * 1000, (), ()), too_long], 0),
            ([(0, (5,), (2,) * 30000, (), ())], 0)):
            with self.assertRaises(InvalidWorld) as caught:
                count_moments(program, world)
            self.assertEqual(caught.exception.index, index)

    def test_choices_that_end_at_the_limit(self):
        # The choice is missing ahead of the moment that would be one too many; with it, the turn is too long.
        choices = (1,) * (MOMENTS // 2 - 1)
        program = looping()
        with self.assertRaises(InvalidWorld):
            count_moments(program, [(0, (5,), choices, (), ())])
        with self.assertRaises(TooLong):
            count_moments(program, [(0, (5,), (*choices, 1), (), ())])

    def test_many_turns_and_many_closures(self):
        f = Function("f", body=[Give("g")], functions=[Function("g", body=[Show("a")])])
        program = Program(Function("main", ["a"], functions=[f], body=[Call("f", [])]))
        world = [(0, (at,), (), (0,), ()) for at in range(5000)]
        began = time.perf_counter()
        self.assertEqual(len(held_at(program, world, None)), 5001)
        self.assertEqual(kept_at(Plain(program), world, None), tuple(range(5000)))
        self.assertEqual(shows_of(program, world + [(17, (), (), (), ())])[-1], [("a", 16)])
        self.assertLess(time.perf_counter() - began, 20)

    def test_many_closures_of_one_turn(self):
        body = [Give("g"), Either([], [Call("f", [])])]
        f = Function("f", things=["y"], functions=[Function("g", body=[Show("y")])], body=body)
        program = Program(Function("main", functions=[f], body=[Call("f", [])]))
        world = [(0, (), (1,) * 9999 + (0,), tuple(range(10000)), ())]
        self.assertEqual(kept_at(Plain(program), world, None), tuple(range(-10000, 0)))
        self.assertEqual(held_at(program, world, None)[-1], (10000, "g", {"y": -10000}))


if __name__ == "__main__":
    unittest.main()
