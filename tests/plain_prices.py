"""Prices and families by plain means: the rules of the document, one by one."""

import itertools

from heldby.layouts import Layout
from heldby.statements import Add, Call, Give, Show
from tests.plain_layouts import LayoutMeans
from tests.plain_tables import statements_at
from tests.plain_worlds import Played


class Priced:
    """The ways, prices and weights of a layout that is told by its choice."""

    def __init__(self, program, bundles, linked, opened):
        self.program, self.bundles, self.linked, self.opened = program, bundles, linked, opened
        self.means = LayoutMeans(program, bundles, linked, opened)
        self.numbers = {n for name in program.functions for n in program.function(name).numbers}

    def owner(self, variable):
        return next(name for name in self.program.functions if variable in self.program.variables(name))

    def is_bundled(self, variable):
        return any(variable in bundle for bundle in self.bundles)

    def units(self, name):
        """How many units the record of a function has."""
        return len({
            frozenset(next((b for b in self.bundles if item[1] in b and item[0] == "variable"), [item]))
            for item in self.means.recorded[name]
        })

    def links(self, name, owner):
        parent = self.program.parent(name)
        if parent == owner or name not in self.linked:
            return 0
        return 1 + self.links(parent, owner)

    def way(self, name, variable):
        owner = self.owner(variable)
        if owner == name:
            return int(variable in self.numbers and variable in self.program.captured(name))
        shut = int(name not in self.opened)
        return self.links(name, owner) + shut + int(variable in self.numbers or self.is_bundled(variable))

    def entry(self, name):
        cost = sum(len(bundle) for bundle in self.bundles if self.owner(bundle[0]) == name)
        for variable in self.program.captured(name):
            cost += variable in self.numbers and not self.is_bundled(variable)
        return cost + (self.units(name) if name in self.opened else 0)

    def statement(self, name, row):
        if isinstance(row, (Show, Add)):
            return self.way(name, row.name)
        if isinstance(row, Give):
            return self.units(row.name)
        if isinstance(row, Call):
            return self.units(row.name) + sum(self.way(name, thing) for thing in row.things)
        return 0

    def statements(self, name):
        return {point: self.statement(name, row) for point, row in statements_at(self.program.function(name).body)}

    def price(self, weights):
        return sum(
            weights.get(name, 1) * (self.entry(name) + sum(self.statements(name).values()))
            for name in self.program.used
        )

    def paid(self, world):
        """The prices of what is done at each moment of each turn, as the stacks tell."""
        total = 0
        for turns in range(1, len(world) + 1):
            played = Played(self.program, world[:turns])
            for moment in range(len(played.seen) - 1):
                stack = played.stack_at(moment)
                name, point, _ = stack[-1]
                if point == ():
                    total += self.entry(name)
                    if len(stack) > 1:
                        # The frame below has just begun its call.
                        total += self.statement(stack[-2][0], self.row_at(*stack[-2][:2]))
                elif len(point) % 2 and isinstance(self.row_at(name, point), (Show, Add, Give)):
                    total += self.statement(name, self.row_at(name, point))
        return total

    def row_at(self, name, point):
        """The statement behind which a point is."""
        return dict(statements_at(self.program.function(name).body))[point]


def partitions(names):
    """All partitions of a list, as sets of frozensets."""
    if not names:
        return {frozenset()}
    found = set()
    for partition in partitions(names[1:]):
        found.add(partition | {frozenset([names[0]])})
        for part in partition:
            found.add(partition - {part} | {part | {names[0]}})
    return found


def switched(program):
    flat = LayoutMeans(program, [], [], program.used[1:])
    return [name for name in program.used[1:] if flat.items[name]]


def subsets(names):
    return [set(some) for many in range(len(names) + 1) for some in itertools.combinations(names, many)]


def choices(program):
    """All choices of the family, as tuples of frozensets."""
    parts = [partitions(list(program.captured(name))) for name in program.used]
    found = set()
    for chosen in itertools.product(*parts):
        bundles = frozenset(part for partition in chosen for part in partition if len(part) > 1)
        for linked in subsets(switched(program)):
            for opened in subsets(switched(program)):
                found.add((bundles, frozenset(linked), frozenset(opened)))
    return found


def as_sets(layout):
    bundles, linked, opened = layout.choice()
    return frozenset(map(frozenset, bundles)), frozenset(linked), frozenset(opened)


def layouts(program):
    """All layouts of the family."""
    return [Layout(program, bundles=[sorted(part) for part in bundles], linked=sorted(linked), opened=sorted(opened))
            for bundles, linked, opened in choices(program)]
