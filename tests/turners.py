"""Programs with functions that call themselves: with few and with many stands."""

import random

from heldby.keepers import Told, points
from heldby.programs import Program
from heldby.statements import Add, Call, Either, Function, Give, Show
from tests.samples import refusal


def turning():
    """f calls itself with its own thing."""
    f = Function("f", ["x"], things=["y"], body=[Either([Call("f", ["y"])], [])])
    return Program(Function("main", ["a"], functions=[f], body=[Call("f", ["a"])]))


def staying():
    """f calls itself with the same thing."""
    f = Function("f", ["x"], body=[Either([Call("f", ["x"])], []), Show("x")])
    return Program(Function("main", ["a"], functions=[f], body=[Call("f", ["a"])]))


def exchanging():
    """f calls itself with its parameters exchanged, or with one of them only and a new thing."""
    f = Function("f", ["x", "y"], things=["z"],
                 body=[Either([Call("f", ["y", "x"])], [Either([Call("f", ["x", "z"])], [])])])
    return Program(Function("main", ["a", "b"], functions=[f], body=[Call("f", ["a", "b"])]))


def ladder():
    """Each function keeps a thing to itself and calls the next one, which does not see it; at last g is given."""
    third = Function("h", ["r"], things=["rr"], body=[Show("r")])
    second = Function("g", ["q"], things=["qq", "qqq"], body=[Call("h", ["q"]), Show("q")])
    first = Function("f", ["p"], things=["pp"], body=[Call("g", ["pp"]), Give("k")])
    given = Function("k", body=[Show("a"), Show("b"), Show("c")])
    return Program(Function("main", ["a"], things=["b", "c"], functions=[first, second, third, given],
                            body=[Call("f", ["a"])]))


class Turner:
    """Makes programs from seeds in which functions call themselves and one another, with keepers of some kinds."""

    def __init__(self, seed):
        self.chance = random.Random(seed)

    def function(self, name, parameters, things, callees, visible):
        variables = [*visible, *parameters, *things]
        calls = []
        for _ in range(self.chance.randint(1, 2)):
            callee, many = self.chance.choice(callees)
            passed = [self.chance.choice(variables) for _ in range(many)]
            calls.append(Either([Call(callee, passed)], []) if self.chance.random() < 0.9 else Give(callee))
        if self.chance.random() < 0.4:
            calls.append(Give(self.chance.choice(callees)[0]))
        if self.chance.random() < 0.5:
            calls.append(Show(self.chance.choice(variables)))
        self.chance.shuffle(calls)
        return Function(name, parameters, things=things, body=calls)

    def main(self):
        sizes = {name: (self.chance.randint(1, 2), self.chance.randint(0, 1)) for name in "fg"}
        callees = [(name, sizes[name][0]) for name in "fg"]
        made = []
        for name in "fg":
            parameters = [f"{name}p{letter}" for letter in "xy"[:sizes[name][0]]]
            things = [f"{name}t{letter}" for letter in "xy"[:sizes[name][1]]]
            made.append(self.function(name, parameters, things, callees, ["a"]))
        body = [Call(name, ["a"] * sizes[name][0]) for name in "fg"[:self.chance.randint(1, 2)]]
        return Function("main", ["a"], functions=made, body=body)

    def keeper(self, program, share):
        closures = {name: [x for x in program.chain_things("main") if self.chance.random() < share]
            for name in program.functions[1:]}
        frames = {
            (name, point): [x for x in program.chain_things(name) if self.chance.random() < share]
            for name in program.functions for point in points(program, name)
        }
        return Told(program, closures, frames)


def turners(many):
    """Tuples (program, one, other) of many seeds."""
    found = []
    for seed in range(many):
        made = Turner(seed)
        main = made.main()
        if not refusal(main):
            program = Program(main)
            found.append((program, made.keeper(program, 0.2), made.keeper(program, 0.3)))
    return found


LETTERS = "abcdefghijkl"


def mixing(name, many):
    """A function of so many parameters that calls itself with any of them in any order, also equal ones.

    The world can bring about each partition of its parameters.
    """
    names = [name + letter for letter in LETTERS[:many]]
    turned, exchanged = names[1:] + names[:1], [names[1], names[0], *names[2:]]
    merged = [names[0], names[0], *names[2:]]
    calls = [Call(name, passed) for passed in (turned, exchanged, merged)]
    return Function(name, names, body=[Either(calls, [])])


def merging(name, many):
    """A function that calls itself with one of its parameters as the one ahead of it: 2 ** (many - 1) stands."""
    names = [name + letter for letter in LETTERS[:many]]
    calls = [Call(name, [*names[:at], names[at - 1], *names[at + 1:]]) for at in range(1, many)]
    return Function(name, names, body=[Either(calls, [])])


# How many partitions a set of this size has.
PARTITIONS = [1, 1, 2, 5, 15, 52, 203, 877, 4140]


def crowd(sizes, merges=()):
    """Main gives functions of these sizes; it has a stand of its own."""
    functions = [mixing(f"f{letter}", size) for letter, size in zip(LETTERS, sizes)]
    functions += [merging(f"g{letter}", size) for letter, size in zip(LETTERS, merges)]
    return Program(Function("main", functions=functions, body=[Give(function.name) for function in functions]))


# 1 + 3 * 877 + 203 + 3 * 52 + 5 + 4 stands, which is the limit, and one more.
FULL = ((7, 7, 7, 6, 5, 5, 5, 3), (3,))
OVERFULL = ((7, 7, 7, 6, 5, 5, 5, 3, 3), ())


def counting():
    """A number is added to on the way, so that moments pass."""
    f = Function("f", ["x"], things=["y"], body=[Add("n", 1), Either([Call("f", ["y"])], [])])
    return Program(Function("main", ["a"], numbers=["n"], functions=[f], body=[Call("f", ["a"])]))
