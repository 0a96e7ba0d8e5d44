"""Makes programs, layouts, keepers and worlds from seeds."""

import random

from heldby.keepers import Plain, Told, points
from heldby.layouts import Layout
from heldby.programs import Program
from heldby.statements import Add, Call, Either, Function, Give, Show
from tests.plain_worlds import Choosing, Played
from tests.samples import refusal


class Maker:
    """Makes a program from a seed: all its names are known, visible, and of the right kind and count."""

    def __init__(self, seed):
        self.random = random.Random(seed)
        self.count = 0

    def name(self, letter):
        self.count += 1
        return letter + "abcdefghijklmnopqrstuvwxyz"[self.count // 26] + "abcdefghijklmnopqrstuvwxyz"[self.count % 26]

    def skeleton(self, depth):
        made = {"name": self.name("f")}
        for kind, most in (("parameters", 2), ("things", 1), ("numbers", 1)):
            made[kind] = [self.name(kind[0]) for _ in range(self.random.randint(0, most))]
        inner = self.random.randint(0, 2) if depth < 3 else 0
        made["functions"] = [self.skeleton(depth + 1) for _ in range(max(inner, 1 if depth == 0 else 0))]
        return made

    def body(self, chain, depth):
        return [self.statement(chain, depth) for _ in range(self.random.choice([0, 1, 1, 2, 2, 3]))]

    def statement(self, chain, depth):
        things = [name for f in chain for name in [*f["parameters"], *f["things"]]]
        numbers = [name for f in chain for name in f["numbers"]]
        callees = [g for f in chain for g in f["functions"]]
        kind = self.random.choice(["show", "add", "call", "call", "give", "either", "either"])
        if kind == "either" and depth < 3:
            return Either(self.body(chain, depth + 1), self.body(chain, depth + 1))
        if kind == "call" and callees:
            callee = self.random.choice(callees)
            if things or not callee["parameters"]:
                return Call(callee["name"], [self.random.choice(things) for _ in callee["parameters"]])
        if kind == "give" and callees:
            return Give(self.random.choice(callees)["name"])
        if kind == "add" and numbers:
            return Add(self.random.choice(numbers), self.random.randint(1, 1000))
        if things + numbers:
            return Show(self.random.choice(things + numbers))
        return Either([], [])

    def function(self, made, chain):
        chain = [*chain, made]
        return Function(
            made["name"], made["parameters"], things=made["things"], numbers=made["numbers"],
            functions=[self.function(inner, chain) for inner in made["functions"]], body=self.body(chain, 0),
        )

    def main(self):
        return self.function(self.skeleton(0), [])


class RichMaker(Maker):
    """Makes programs with more functions in each other, and with more variables of the functions around in use."""

    def skeleton(self, depth):
        made = {"name": self.name("f")}
        for kind, most in (("parameters", 1), ("things", 2), ("numbers", 1)):
            made[kind] = [self.name(kind[0]) for _ in range(self.random.randint(0, most))]
        inner = self.random.choice([1, 1, 2]) if depth < 4 else 0
        made["functions"] = [self.skeleton(depth + 1) for _ in range(inner)]
        return made

    def body(self, chain, depth):
        # Each inner function is called or given, so that most functions are used.
        inner = [] if depth else chain[-1]["functions"]
        statements = [self.statement(chain, depth) for _ in range(self.random.choice([0, 1, 1, 2]))]
        things = [name for f in chain for name in [*f["parameters"], *f["things"]]]
        for made in inner:
            if made["parameters"] and not things or self.random.random() < 0.5:
                statements.append(Give(made["name"]))
            else:
                statements.append(Call(made["name"], [self.random.choice(things) for _ in made["parameters"]]))
        self.random.shuffle(statements)
        return statements


def programs(many, least_used=1):
    """Programs that are let, of many seeds, with so many used functions at least."""
    found = []
    for seed in range(many):
        for made in (Maker(seed), RichMaker(seed)):
            main = made.main()
            if not refusal(main):
                program = Program(main)
                if len(program.used) >= least_used:
                    found.append(program)
    return found


def made_layout(chance, program):
    """A layout with choices by chance."""
    bundles = []
    for name in program.used:
        variables = list(program.captured(name))
        chance.shuffle(variables)
        while len(variables) > 1 and chance.random() < 0.7:
            size = chance.randint(2, len(variables))
            bundles.append(variables[:size])
            variables = variables[size:]
    chance.shuffle(bundles)
    inner = list(program.used[1:])
    linked = [name for name in inner if chance.random() < 0.5]
    opened = [name for name in inner if chance.random() < 0.5]
    return Layout(program, bundles=bundles, linked=linked, opened=opened)


def made_told(chance, program, share):
    """A keeper that is told a share of all that may be told."""
    closures, frames = {}, {}
    for name in program.functions:
        if program.parent(name) is not None:
            closures[name] = [x for x in program.chain_things(program.parent(name)) if chance.random() < share]
        for point in points(program, name):
            frames[(name, point)] = [x for x in program.chain_things(name) if chance.random() < share]
    return Told(program, closures, frames)


def changed(chance, keeper):
    """A keeper that differs at a few places from this one."""
    program = keeper.program
    closures = {name: list(keeper.closure(name)) for name in program.functions if program.parent(name) is not None}
    frames = {(name, point): list(keeper.frame(name, point)) for name in program.functions
        for point in points(program, name)}
    places = [(closures, name, program.chain_things(program.parent(name))) for name in closures]
    places += [(frames, key, program.chain_things(key[0])) for key in frames]
    for _ in range(chance.choice([0, 1, 1, 2, 5])):
        table, key, things = chance.choice(places)
        if things:
            thing = chance.choice(things)
            if thing in table[key]:
                table[key].remove(thing)
            else:
                table[key].append(thing)
    return Told(program, closures, frames)


def made_keeper(chance, program):
    """A keeper of any class."""
    kind = chance.randrange(6)
    if kind == 0:
        return Plain(program)
    if kind == 1:
        return made_layout(chance, program)
    if kind == 2:
        return made_told(chance, program, chance.random())
    if kind == 3:
        return changed(chance, Plain(program))
    if kind == 4:
        return made_layout(chance, program) & changed(chance, Plain(program))
    return Plain(program) | made_told(chance, program, 0.1)


def made_world(chance, program, turns, most_moments=150):
    """A world of at most so many turns, whose turns are not long; [] if chance finds none."""
    world = []
    for _ in range(turns):
        held = list(Played(program, world).held)
        if not held:
            break
        closure = chance.choice(held + held[-1:] * 2)
        name = Played(program, world).held[closure][0]
        things = tuple(chance.choice([0, 1, 7, 10 ** 30, chance.randint(0, 9)])
            for _ in program.function(name).parameters)
        drops = tuple(number for number in held if chance.random() < 0.2)
        choosing = Choosing(chance)
        tried = Played(program, world, choosing=choosing, most_moments=most_moments)
        if not tried.turn((closure, things, (), (), drops)):
            continue
        takes = tuple(number for number in range(tried.offered) if chance.random() < 0.6)
        spare = tuple(chance.randint(0, 1) for _ in range(chance.choice([0, 0, 2])))
        world.append((closure, things, tuple(choosing.choices) + spare, takes, drops))
    return world
