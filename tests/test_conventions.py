"""That nothing changes what it is given, that what is returned is new, and that equal calls return equal results."""

import copy
import random
import unittest

from heldby.comparing import compared, excesses, is_compared, keeps_no_more
from heldby.keepers import Plain, Told, points
from heldby.layouts import Layout
from heldby.programs import Program
from heldby.worlds import count_moments, held_at, kept_at, shows_of, stack_at
from tests.makers import changed, made_keeper, made_layout, made_told, made_world, programs


def tells(keeper):
    program = keeper.program
    frames = {(name, point): keeper.frame(name, point) for name in program.functions for point in points(program, name)}
    return {name: keeper.closure(name) for name in program.functions}, frames


def spoil(value):
    """Changes all lists and dicts in a value."""
    if isinstance(value, (list, tuple)):
        for member in value:
            spoil(member)
    if isinstance(value, dict):
        for member in value.values():
            spoil(member)
        value.clear()
        value["spoiled"] = True
    if isinstance(value, list):
        value.reverse()
        value.append("spoiled")


class Case:
    """A program with keepers and a world, made again for each seed."""

    def __init__(self, seed, program):
        chance = random.Random(seed)
        self.program = program
        self.layout = made_layout(chance, program)
        self.one = made_keeper(chance, program)
        self.other = changed(chance, self.one)
        self.world = made_world(chance, program, 3)
        self.last = count_moments(program, self.world) - 1 if self.world else None

    def calls(self):
        """All calls of a case, by names: functions without arguments that make the call."""
        calls = {
            "compared": lambda: compared(self.one, self.other), "excesses": lambda: excesses(self.one, self.other),
            "keeps": lambda: keeps_no_more(self.one, self.other), "plain": lambda: tells(Plain(self.program)),
            "both": lambda: tells(self.one & self.other), "any": lambda: tells(self.one | self.other),
            "choice": self.layout.choice, "layout": lambda: tells(self.layout),
            "flat": lambda: Layout.flat(self.program).choice(),
                "chained": lambda: Layout.chained(self.program).choice(),
        }
        for name in self.program.functions:
            calls[f"points {name}"] = lambda name=name: points(self.program, name)
            calls[f"steps {name}"] = lambda name=name: self.program.steps(name)
        for name in self.program.used:
            calls[f"wanted {name}"] = lambda name=name: self.layout.wanted(name)
            calls[f"recorded {name}"] = lambda name=name: self.layout.recorded(name)
            calls[f"units {name}"] = lambda name=name: self.layout.units(name)
            calls[f"reach {name}"] = lambda name=name: self.layout.reach(("record", name))
        if self.world:
            for moment in (0, self.last, None):
                calls[f"stack {moment}"] = lambda moment=moment: stack_at(self.program, self.world, moment)
                calls[f"held {moment}"] = lambda moment=moment: held_at(self.program, self.world, moment)
                calls[f"kept {moment}"] = lambda moment=moment: kept_at(self.one, self.world, moment)
            calls["shows"] = lambda: shows_of(self.program, self.world)
            calls["count"] = lambda: count_moments(self.program, self.world)
        return calls


class ConventionsTest(unittest.TestCase):
    def cases(self):
        return [Case(at, program) for at, program in enumerate(programs(40))]

    def test_equal_calls(self):
        for at, program in enumerate(programs(40)):
            one, other = Case(at, program), Case(at, Program(copy.deepcopy(program.main)))
            self.assertIsNot(one.program.main, other.program.main)
            first, second = one.calls(), other.calls()
            for word in first:
                result = first[word]()
                self.assertEqual(result, first[word](), word)
                self.assertEqual(result, second[word](), word)

    def test_returned_values_are_new(self):
        for case in self.cases():
            calls = case.calls()
            before = {word: copy.deepcopy(calls[word]()) for word in calls}
            for word in calls:
                spoil(calls[word]())
            self.assertEqual({word: calls[word]() for word in calls}, before)

    def test_arguments_stay(self):
        for at, case in enumerate(self.cases()):
            world, main = copy.deepcopy(case.world), copy.deepcopy(case.program.main)
            keepers = [case.layout, case.one, case.other]
            before = [tells(keeper) for keeper in keepers], case.layout.choice()
            for call in case.calls().values():
                call()
            value = compared(case.one, case.other)
            had = copy.deepcopy(value)
            is_compared(case.one, case.other, value)
            self.assertEqual(value, had)
            self.assertEqual(case.world, world)
            self.assertTrue(case.program.main == main)
            self.assertEqual(([tells(keeper) for keeper in keepers], case.layout.choice()), before)

    def test_what_is_told_is_copied(self):
        for at, program in enumerate(programs(40)):
            closures, frames = tells(made_told(random.Random(at), program, 0.5))
            closures = {name: list(closures[name]) for name in program.functions[1:]}
            frames = {key: list(frames[key]) for key in frames}
            had = copy.deepcopy((closures, frames))
            told = Told(program, closures, frames)
            before = tells(told)
            self.assertEqual((closures, frames), had)
            spoil([closures, frames])
            self.assertEqual(tells(told), before)

    def test_layouts_copy_their_lists(self):
        for at, program in enumerate(programs(40, 2)):
            choice = made_layout(random.Random(at), program).choice()
            bundles, linked, opened = [list(bundle) for bundle in choice[0]], list(choice[1]), list(choice[2])
            layout = Layout(program, bundles=bundles, linked=linked, opened=opened)
            before = tells(layout)
            self.assertEqual((bundles, linked, opened), ([list(bundle) for bundle in choice[0]], list(choice[1]),
                list(choice[2])))
            spoil([bundles, linked, opened])
            self.assertEqual((layout.choice(), tells(layout)), (choice, before))

    def test_errors_change_nothing(self):
        for case in self.cases():
            before = tells(case.layout), case.layout.choice()
            for call in (
                lambda: case.layout.unbundled(99), lambda: case.layout.joined("nobody", None),
                    lambda: case.layout.with_link(None, 1),
                lambda: case.layout.closure(["f"]), lambda: case.layout.frame("nobody", ()),
                    lambda: case.layout.reach([]),
                lambda: kept_at(case.layout, [None], 0),
            ):
                with self.assertRaises((LookupError, ValueError)):
                    call()
            self.assertEqual((tells(case.layout), case.layout.choice()), before)


if __name__ == "__main__":
    unittest.main()
