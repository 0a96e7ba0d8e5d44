import copy
import random
import time
import unittest

from heldby.errors import InvalidWorld, NotHeld, OtherProgram, TooLong
from heldby.keepers import Plain, Told
from heldby.layouts import Layout
from heldby.limits import MOMENTS
from heldby.programs import Program
from heldby.runs import Handle, Run
from heldby.statements import Add, Call, Either, Function, Give, Show
from heldby.worlds import held_at, kept_at, shows_of
from tests.makers import made_keeper, made_world, programs
from tests.plain_worlds import Played
from tests.samples import any_values


def counting():
    """main gives f, which shares the number n of main and has own things and numbers; g in f adds to both numbers."""
    g = Function("g", body=[Add("m", 1), Add("n", 10), Show("m"), Show("n")])
    f = Function("f", ["x"], things=["y"], numbers=["m"], functions=[g],
                 body=[Add("m", 5), Add("n", 100), Give("g"), Either([Show("x")], [Show("y")]), Give("g")])
    return Program(Function("main", ["a"], numbers=["n"], functions=[f], body=[Show("n"), Give("f"), Call("f", ["a"])]))


def looping():
    """A turn of g with n + 1 choices, n ones ahead of a zero, has 7 + 5 * n moments; f adds to a number of main."""
    f = Function("f", ["x"], body=[Add("n", 1), Either([], [Call("f", ["x"])])])
    g = Function("g", body=[Show("n"), Call("f", ["a"])])
    return Program(Function("main", ["a"], numbers=["n"], functions=[f, g], body=[Give("g")]))


def state(run):
    """All that a run tells."""
    keepers = [Plain(run.program), Layout.chained(run.program)]
    return (
        run.world, [(handle.number, handle.name, handle.is_held) for handle in run.handles],
        [run.kept(keeper) for keeper in keepers],
    )


class PlainRunsTest(unittest.TestCase):
    def test_begins_with_the_closure_of_main(self):
        program = counting()
        for run in (Run(program), Run(program=program), Run.of(program, []), Run.of(program=program, world=())):
            self.assertIsInstance(run, Run)
            self.assertIs(run.program, program)
            self.assertEqual(run.world, [])
            self.assertIsInstance(run.world, list)
            self.assertIsInstance(run.handles, tuple)
            self.assertEqual(len(run.handles), 1)
            handle = run.handles[0]
            self.assertIsInstance(handle, Handle)
            self.assertEqual((handle.number, handle.name, handle.is_held), (0, "main", True))
            self.assertEqual(run.kept(Plain(program)), ())

    def test_a_call_is_a_turn(self):
        run = Run(counting())
        main = run.handles[0]
        self.assertEqual(main([7], [0], [0, 2]), [("n", 0), ("x", 7)])
        self.assertEqual(run.world, [(0, (7,), (0,), (0, 2), ())])
        self.assertEqual([(handle.number, handle.name) for handle in run.handles], [(0, "main"), (1, "f"), (2, "g")])
        self.assertIs(run.handles[0], main)
        f, g = run.handles[1:]
        self.assertEqual(f((8,), (1,)), [("y", -2)])
        self.assertEqual(g(), [("m", 6), ("n", 210)])
        self.assertEqual(g(things=[], choices=(), takes=[], last=True), [("m", 7), ("n", 220)])
        self.assertEqual([handle.number for handle in run.handles], [0, 1])
        self.assertEqual(run.world[1:], [(1, (8,), (1,), (), ()), (2, (), (), (), ()), (2, (), (), (), (2,))])
        self.assertIs(g.is_held, False)
        self.assertIs(f.is_held, True)

    def test_takes_make_handles_with_new_numbers(self):
        run = Run(counting())
        main = run.handles[0]
        main([1], [0], [1])
        run.handles[1].drop()
        main([2], [0], [0, 1, 2], True)
        self.assertEqual([(handle.number, handle.name) for handle in run.handles], [(2, "f"), (3, "g"), (4, "g")])
        run.handles[0]([3], [1, 0, 1], [1])
        self.assertEqual([handle.number for handle in run.handles], [2, 3, 4, 5])

    def test_properties(self):
        for name in ("handles", "world", "program"):
            self.assertIsInstance(vars(Run)[name], property)
        for name in ("number", "name", "is_held"):
            self.assertIsInstance(vars(Handle)[name], property)
        for name in ("of", "kept"):
            self.assertIn(name, vars(Run))
        for name in ("__call__", "drop"):
            self.assertIn(name, vars(Handle))
        run = Run(counting())
        for name in ("handles", "world", "program"):
            with self.assertRaises(AttributeError):
                setattr(run, name, ())
        for name in ("number", "name", "is_held"):
            with self.assertRaises(AttributeError):
                setattr(run.handles[0], name, 1)

    def test_returned_lists_are_new(self):
        run = Run(counting())
        shows = run.handles[0]([1], [0], [0])
        shows.clear()
        run.world.clear()
        self.assertEqual(len(run.world), 1)
        self.assertEqual(run.handles[0]([1], [0]), [("n", 0), ("x", 1)])

    def test_given_lists_are_copied(self):
        run = Run(counting())
        things, choices, takes = [1], [0], [0]
        run.handles[0](things, choices, takes)
        self.assertEqual((things, choices, takes), ([1], [0], [0]))
        for given in (things, choices, takes):
            given.append(5)
        self.assertEqual(run.world, [(0, (1,), (0,), (0,), ())])
        world = [(0, (1,), (0,), (0,), ())]
        other = Run.of(run.program, world)
        world.append(None)
        self.assertEqual(other.world, [(0, (1,), (0,), (0,), ())])
        other.handles[0]([1], [0])
        self.assertEqual(len(world), 2)

    def test_runs_do_not_share(self):
        program = counting()
        one, other = Run(program), Run(program)
        one.handles[0]([1], [0], [0])
        self.assertEqual((other.world, len(other.handles)), ([], 1))
        other.handles[0]([2], [0], [0])
        self.assertEqual(one.handles[1]([1], [1]), [("y", -2)])
        self.assertEqual(other.world, [(0, (2,), (0,), (0,), ())])


class DropsTest(unittest.TestCase):
    def setUp(self):
        self.run_ = Run.of(counting(), [(0, (7,), (0,), (0, 1, 2), ())])

    def test_drops_wait_for_the_next_turn(self):
        run = self.run_
        main, f, g, other = run.handles
        self.assertEqual(run.kept(Plain(run.program)), ())
        self.assertIsNone(g.drop())
        self.assertIs(g.is_held, False)
        self.assertEqual(run.handles, (main, f, other))
        self.assertEqual(len(run.world), 1)
        main.drop()
        self.assertEqual(run.handles, (f, other))
        f([8], [0])
        self.assertEqual(run.world[1], (1, (8,), (0,), (), (0, 2)))
        other()
        self.assertEqual(run.world[2], (3, (), (), (), ()))

    def test_kept_counts_drops_at_once(self):
        program = Program(Function("main", ["a"], functions=[Function("f", body=[Show("a")])], body=[Give("f")]))
        run = Run.of(program, [(0, (5,), (), (0,), ()), (0, (6,), (), (0,), ())])
        self.assertEqual(run.kept(Plain(program)), (5, 6))
        run.handles[1].drop()
        self.assertEqual(run.kept(keeper=Plain(program)), (6,))
        self.assertEqual(kept_at(Plain(program), run.world, None), (5, 6))
        run.handles[1].drop()
        self.assertEqual(run.kept(Plain(program)), ())
        self.assertEqual(run.world, [(0, (5,), (), (0,), ()), (0, (6,), (), (0,), ())])
        run.handles[0]([7])
        self.assertEqual(run.world[2], (0, (7,), (), (), (1, 2)))

    def test_last_drops_the_called_one_too(self):
        run = self.run_
        main, f, g, other = run.handles
        other.drop()
        f([8], [0], [], True)
        self.assertEqual(run.world[1], (1, (8,), (0,), (), (1, 3)))
        self.assertEqual(run.handles, (main, g))
        g.drop()
        main(last=True, things=[1], choices=[0])
        self.assertEqual(run.world[2], (0, (1,), (0,), (), (0, 2)))
        self.assertEqual(run.handles, ())

    def test_dropped_handles(self):
        run = self.run_
        handle = run.handles[2]
        handle.drop()
        before = state(run)
        for call in (handle.drop, handle, lambda: handle(None), lambda: handle([], [], [99]),
            lambda: handle(5, 5, 5, 5)):
            with self.assertRaises(NotHeld) as caught:
                call()
            self.assertEqual(vars(caught.exception), {"value": 2})
        self.assertEqual(state(run), before)
        run.handles[0]([1], [0], [], True)
        for gone in (handle.drop, handle):
            with self.assertRaises(NotHeld):
                gone()
        with self.assertRaises(NotHeld) as caught:
            Run.of(counting(), [(0, (7,), (0,), (), ())]).handles[0].drop() or handle()
        self.assertEqual(caught.exception.value, 2)

    def test_a_handle_dropped_by_last(self):
        run = Run(counting())
        main = run.handles[0]
        main([1], [0], [], True)
        self.assertEqual((run.handles, main.is_held), ((), False))
        with self.assertRaises(NotHeld) as caught:
            main([1], [0])
        self.assertEqual(caught.exception.value, 0)
        with self.assertRaises(NotHeld):
            main.drop()


class RefusedCallsTest(unittest.TestCase):
    def check(self, run, call, kind, fields):
        """A call that is refused, after which all is as it was, and goes on as if it had not been made."""
        before = state(run)
        twin = Run.of(run.program, run.world)
        with self.assertRaises(kind) as caught:
            call(run)
        self.assertEqual(vars(caught.exception), fields)
        self.assertEqual(state(run), before)
        for handle, other in zip(run.handles, twin.handles):
            count = len(run.program.function(handle.name).parameters)
            self.assertEqual(handle([3] * count, [0] * 9), other([3] * count, [0] * 9))
        self.assertEqual(run.world, twin.world)

    def begun(self, turns=1):
        return Run.of(counting(), [(0, (7,), (0,), (0, 1), ())] * turns)

    def test_things_that_are_none(self):
        for turns in (0, 1, 2):
            for value in [*any_values(), [], [1, 2], [-1], [True], ["a"], [10 ** 30 + 1], (None,), "a", range(1),
                {0: 1}]:
                self.check(self.begun(turns), lambda run, value=value: run.handles[0](value, [0]), InvalidWorld,
                    {"index": turns})

    def test_choices_that_are_none(self):
        for value in [*any_values(), [2], [0, -1], [True], [0, None], (0, 5), "0", {0: 0}]:
            if value in ((), []):
                continue
            self.check(self.begun(), lambda run, value=value: run.handles[0]([1], value), InvalidWorld, {"index": 1})

    def test_takes_that_are_none(self):
        for value in [*any_values(), [1, 0], [0, 0], [-1], [True], [0, None], (3,), [0, 1, 2, 3], [10 ** 99], "0",
            {0: 0}]:
            if value in ((), []):
                continue
            self.check(self.begun(), lambda run, value=value: run.handles[0]([1], [0], value), InvalidWorld,
                {"index": 1})

    def test_too_few_choices(self):
        self.check(self.begun(), lambda run: run.handles[0]([1]), InvalidWorld, {"index": 1})
        self.check(self.begun(), lambda run: run.handles[0]([1], [], [0, 1, 2]), InvalidWorld, {"index": 1})
        self.check(self.begun(), lambda run: run.handles[0]([1], [], [0], True), InvalidWorld, {"index": 1})

    def test_numbers_and_own_things_of_a_refused_call(self):
        # f adds to numbers of older activations, makes a thing, and gives closures, ahead of the choice it lacks.
        run = self.begun()
        f, g = run.handles[1:]
        for _ in range(3):
            with self.assertRaises(InvalidWorld):
                f([5], [], [0])
            with self.assertRaises(InvalidWorld):
                g([], [], [0])
        self.assertEqual(g(), [("m", 6), ("n", 110)])
        self.assertEqual(f([5], [1], [0]), [("y", -2)])
        self.assertEqual([handle.number for handle in run.handles], [0, 1, 2, 3])

    def test_drops_go_on_waiting(self):
        run = self.begun()
        main, f, g = run.handles
        g.drop()
        for call in (lambda: main([1]), lambda: f(None), lambda: f([1], [0], [9], True), lambda: g()):
            with self.assertRaises((InvalidWorld, NotHeld)):
                call()
        self.assertEqual((run.handles, g.is_held, f.is_held), ((main, f), False, True))
        f([1], [0], [], True)
        self.assertEqual(run.world[1], (1, (1,), (0,), (), (1, 2)))
        self.assertEqual(run.handles, (main,))

    def test_too_long(self):
        program = looping()
        run = Run.of(program, [(0, (4,), (), (0,), ())])
        g = run.handles[1]
        choices = [1] * (MOMENTS // 5) + [0]
        with self.assertRaises(TooLong) as caught:
            g([], choices, [], True)
        self.assertEqual(vars(caught.exception), {"limit": MOMENTS})
        self.assertEqual((len(run.world), g.is_held), (1, True))
        self.assertEqual(g([], choices[100:]), [("n", 0)])
        self.assertEqual(g([], [0]), [("n", len(choices) - 100)])

    def test_the_order_of_the_errors(self):
        run = self.begun()
        gone = run.handles[1]
        gone.drop()
        for told in ((None,), ([1], []), ([1], [0], [99])):
            with self.assertRaises(NotHeld):
                gone(*told)
        program = looping()
        run = Run.of(program, [(0, (4,), (), (0,), ())])
        with self.assertRaises(TooLong):
            run.handles[1]([], [1] * 40000, [0])
        with self.assertRaises(InvalidWorld):
            run.handles[1]([], [1] * 40000, [1, 0])


class OfTest(unittest.TestCase):
    def test_values_that_are_no_list(self):
        for value in any_values():
            if not isinstance(value, (list, tuple)):
                with self.assertRaises(InvalidWorld) as caught:
                    Run.of(counting(), value)
                self.assertEqual(vars(caught.exception), {"index": -1})

    def test_turns_that_are_none(self):
        good = (0, (7,), (0,), (0,), ())
        bad = [*any_values(), (0, (), (), (), ()), (5, (), (), (), ()), (0, (7,), (0,), (9,), ()),
            (0, (7,), (), (), ()),
            (0, [7], (0,), (), ()), list(good), (0, (7,), (0,), (), (1,))]
        for turns in (0, 1, 3):
            for value in bad:
                if turns and value == (0, (7,), (0,), (), (1,)):
                    continue
                with self.assertRaises(InvalidWorld) as caught:
                    Run.of(counting(), [good] * turns + [value, None])
                self.assertEqual(vars(caught.exception), {"index": turns})

    def test_too_long(self):
        with self.assertRaises(TooLong) as caught:
            Run.of(looping(), [(0, (4,), (), (0,), ()), (1, (), (1,) * MOMENTS, (), ())])
        self.assertEqual(caught.exception.limit, MOMENTS)


class KeptTest(unittest.TestCase):
    def test_other_programs(self):
        run = Run(counting())
        for keeper in (Plain(looping()), Layout(looping()), Told(looping(), {}, {})):
            with self.assertRaises(OtherProgram):
                run.kept(keeper)
        self.assertEqual(run.kept(Plain(counting())), ())


class ByPlainMeansTest(unittest.TestCase):
    def test_runs_of_worlds(self):
        turns = 0
        for at, program in enumerate(programs(120)):
            chance = random.Random(at)
            world = made_world(chance, program, 4)
            keepers = [made_keeper(chance, program) for _ in range(2)]
            run, told = Run(program), []
            for index, (closure, things, choices, takes, drops) in enumerate(world):
                handles = {handle.number: handle for handle in run.handles}
                last = closure in drops and chance.random() < 0.5
                for number in drops:
                    if number != closure:
                        handles[number].drop()
                if closure in drops and not last:
                    # A handle that was dropped cannot be called, so such a turn is one with last.
                    last = True
                told.append(handles[closure](list(things), list(choices), list(takes), last))
                so_far = world[:index + 1]
                self.assertEqual(run.world, so_far)
                self.assertEqual(told, shows_of(program, so_far))
                self.assertEqual([(h.number, h.name) for h in run.handles],
                    [row[:2] for row in held_at(program, so_far, None)])
                for keeper in keepers:
                    self.assertEqual(run.kept(keeper), kept_at(keeper, so_far, None))
                    self.assertEqual(run.kept(keeper), Played(program, so_far).kept_at(keeper, -1))
                turns += 1
            again = Run.of(copy.deepcopy(program), tuple(world))
            self.assertEqual(state(again), state(run))
        self.assertGreater(turns, 200)

    def test_refused_calls_in_between(self):
        refused = 0
        for at, program in enumerate(programs(80)):
            chance = random.Random(at)
            world = made_world(chance, program, 4)
            run = Run(program)
            for turn in world:
                for handle in run.handles:
                    count = len(program.function(handle.name).parameters)
                    before = state(run)
                    for told in (([1] * (count + 1), [0] * 50), ([1] * count, [0] * 50, [500]), ([1] * count, [], [0])):
                        try:
                            Run.of(program, run.world).handles[run.handles.index(handle)](*told)
                        except InvalidWorld:
                            refused += 1
                            with self.assertRaises(InvalidWorld):
                                handle(*told)
                    self.assertEqual(state(run), before)
                closure, things, choices, takes, drops = turn
                handles = {handle.number: handle for handle in run.handles}
                for number in drops:
                    if number != closure:
                        handles[number].drop()
                handles[closure](things, choices, takes, closure in drops)
            self.assertEqual(run.world, world)
            if world:
                shows = shows_of(program, world)
                self.assertEqual(shows_of(program, run.world), shows)
        self.assertGreater(refused, 300)


class LongRunsTest(unittest.TestCase):
    def test_many_turns(self):
        g = Function("g", body=[Show("a")])
        program = Program(Function("main", ["a"], functions=[g], body=[Give("g")]))
        began = time.perf_counter()
        run = Run(program)
        main = run.handles[0]
        for at in range(5000):
            main([at], [], [0])
        self.assertEqual(run.handles[4999](), [("a", 4998)])
        self.assertEqual(run.kept(Plain(program)), tuple(range(5000)))
        for _ in range(1000):
            with self.assertRaises(InvalidWorld):
                main([0], [], [1])
        self.assertEqual(len(run.handles), 5001)
        self.assertLess(time.perf_counter() - began, 20)

    def test_a_turn_of_the_greatest_length(self):
        program = looping()
        run = Run.of(program, [(0, (4,), (), (0,), ())])
        g = run.handles[1]
        most = (MOMENTS - 7) // 5
        began = time.perf_counter()
        self.assertEqual(g([], [1] * most + [0]), [("n", 0)])
        with self.assertRaises(TooLong):
            g([], [1] * (most + 1) + [0])
        self.assertEqual(g([], [0]), [("n", most + 1)])
        self.assertLess(time.perf_counter() - began, 20)


if __name__ == "__main__":
    unittest.main()
