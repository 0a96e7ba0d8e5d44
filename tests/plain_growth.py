"""Stands, counts and rounds by plain means: the rules of the document one by one, with sets and dicts by variables.

A stand is a tuple (function, groups), groups a frozenset of tuples (frozenset of names, by_one, by_other).
"""

from heldby.keepers import points
from heldby.statements import Call, Give
from heldby.worlds import count_moments, held_at, kept_at, stack_at
from tests.plain_tables import statements_at


def own_groups(names):
    return {(frozenset([name]), False, False) for name in names}


def too_much(group, by_one, by_other):
    names, kept_one, kept_other = group
    return (kept_one or bool(names & set(by_one))) and not (kept_other or bool(names & set(by_other)))


def call(one, other, stand, point, row):
    """The stand to which a call leads, and what it counts."""
    program, (f, groups) = one.program, stand
    outer = set(program.chain_things(program.parent(row.name)))
    further, count = own_groups(program.function(row.name).things), 0
    for group in groups:
        names, kept_one, kept_other = group
        left = {name for name in names if name in outer}
        left |= {p for p, thing in zip(program.function(row.name).parameters, row.things) if thing in names}
        if left:
            by_one = kept_one or bool(names & set(one.frame(f, point)))
            by_other = kept_other or bool(names & set(other.frame(f, point)))
            further.add((frozenset(left), by_one, by_other))
        else:
            count += too_much(group, one.frame(f, point), other.frame(f, point))
    return (row.name, frozenset(further)), count


def give(program, stand, row):
    outer = set(program.chain_things(program.parent(row.name)))
    return row.name, frozenset((names & outer, False, False) for names, _, _ in stand[1] if names & outer)


def start(program, closure):
    name, groups = closure
    function = program.function(name)
    return name, frozenset(set(groups) | own_groups(function.parameters) | own_groups(function.things))


class Counted:
    """All stands, each with its calls (stand, count), and all closures that are given."""

    def __init__(self, one, other):
        self.one, self.other, self.program = one, other, one.program
        self.main = start(self.program, (self.program.main.name, frozenset()))
        self.calls, self.closures = {}, set()
        fresh = [self.main]
        while fresh:
            stand = fresh.pop()
            if stand in self.calls:
                continue
            self.calls[stand] = []
            for point, row in statements_at(self.program.function(stand[0]).body):
                if isinstance(row, Call):
                    self.calls[stand].append(call(one, other, stand, point, row))
                    fresh.append(self.calls[stand][-1][0])
                if isinstance(row, Give):
                    self.closures.add(give(self.program, stand, row))
                    fresh.append(start(self.program, give(self.program, stand, row)))

    def here(self, stand):
        """The greatest number of groups that are too much with the frame of the stand."""
        f, groups = stand
        return max(
            sum(too_much(group, self.one.frame(f, point), self.other.frame(f, point)) for group in groups)
            for point in points(self.program, f)
        )

    def in_closure(self, closure):
        name, groups = closure
        return sum(too_much(group, self.one.closure(name), self.other.closure(name)) for group in groups)

    def growth(self):
        """The most that may be left behind on the ways to each stand, round by round; None if it goes on growing."""
        best = {start(self.program, closure): 0 for closure in self.closures}
        best[self.main] = 0
        for _ in range(len(self.calls) + 1):
            changed = False
            for stand in list(best):
                for further, count in self.calls[stand]:
                    if best[stand] + count > best.get(further, -1):
                        best[further] = best[stand] + count
                        changed = True
            if not changed:
                ends = [many + self.here(stand) for stand, many in best.items()]
                return max(ends + [self.in_closure(closure) for closure in self.closures])
        return None


def read(value):
    """A stand or a closure as it is written in an answer, as one of those above; it must be written rightly."""
    name, groups = value
    assert isinstance(groups, tuple) and list(groups) == sorted(groups)
    for names, by_one, by_other in groups:
        assert isinstance(names, tuple) and names and list(names) == sorted(set(names))
        assert isinstance(by_one, bool) and isinstance(by_other, bool)
    found = [thing for names, _, _ in groups for thing in names]
    assert len(set(found)) == len(found)
    return (name, frozenset((frozenset(names), by_one, by_other) for names, by_one, by_other in groups)), set(found)


def bare(stand):
    return stand[0], frozenset((names, False, False) for names, _, _ in stand[1])


def count_faults(one, other, number, value):
    """The numbers of the rules for counts that are broken; 0 if a part is not written as it must be."""
    program = one.program
    try:
        closures, entered, standing = value
        for rows in value:
            assert isinstance(rows, tuple) and list(rows) == sorted(set(rows))
        for name, _ in closures:
            assert read((name, dict(closures)[name]))[1] == set(program.chain_things(program.parent(name)))
        for stand in [*entered, *[row[0] for row in standing]]:
            assert read(stand)[1] == set(program.chain_things(stand[0])) and stand[0] in program.used
        assert all(bare(read(row)[0]) == read(row)[0] for row in [*closures, *entered])
        assert len({row[0] for row in standing}) == len(standing)
        assert all(type(row[1]) is int for row in standing)
    except (AssertionError, ValueError, KeyError, TypeError, LookupError):
        return {0}
    found, counted = set(), Counted(one, other)
    closures, entered = {read(row)[0] for row in closures}, {read(row)[0] for row in entered}
    bounds = {read(row)[0]: bound for row, bound in standing}
    starts = {start(program, closure) for closure in closures} | {counted.main}
    if not starts <= entered or not starts <= set(bounds):
        found.add(1)
    for stand in entered:
        for point, row in statements_at(program.function(stand[0]).body):
            if isinstance(row, Call) and bare(call(one, other, stand, point, row)[0]) not in entered:
                found.add(2)
            if isinstance(row, Give) and give(program, stand, row) not in closures:
                found.add(2)
    for stand, bound in bounds.items():
        for point, row in statements_at(program.function(stand[0]).body):
            if isinstance(row, Call):
                further, count = call(one, other, stand, point, row)
                if further not in bounds or count + bounds[further] > bound:
                    found.add(3)
        if counted.here(stand) > bound:
            found.add(3)
    if any(bounds[stand] > number for stand in starts & set(bounds)):
        found.add(4)
    if any(counted.in_closure(closure) > number for closure in closures):
        found.add(4)
    return found


def stand_at(one, other, world, moment, depth):
    """The stand of the frame at this depth of the stack of a moment, by the things that its variables hold."""
    stack = stack_at(one.program, world, moment)
    name, _, things = stack[depth]
    groups = set()
    for thing in set(things.values()):
        kept = []
        for keeper in (one, other):
            below = stack[:depth]
            kept.append(any(held[v] == thing for f, point, held in below for v in keeper.frame(f, point)))
        groups.add((frozenset(variable for variable in things if things[variable] == thing), *kept))
    return name, frozenset(groups)


def round_faults(one, other, world, first, again):
    """What is wrong with two moments of a world, as words."""
    program = one.program
    many = count_moments(program, world)
    if not 0 <= first < again < many:
        return ["moments"]
    faults = []
    stacks = [stack_at(program, world, moment) for moment in range(first, again + 1)]
    low, high = len(stacks[0]), len(stacks[-1])
    for moment in (first, again):
        stack = stack_at(program, world, moment)
        before = stack_at(program, world, moment - 1) if moment else []
        if stack[-1][1] != () or len(stack) != len(before) + 1:
            faults.append("entry")
        if held_at(program, world, moment):
            faults.append("held")
    # A frame that ends leaves a moment at which the stack is lower.
    if high <= low or any(len(stack) < low for stack in stacks):
        return [*faults, "stack"]
    if stand_at(one, other, world, first, low - 1) != stand_at(one, other, world, again, high - 1):
        faults.append("stands")
    count = 0
    stack = stacks[-1]
    for depth in range(low - 1, high - 1):
        f, point, things = stack[depth]
        for group in stand_at(one, other, world, again, depth)[1]:
            thing = things[next(iter(group[0]))]
            if thing not in stack[depth + 1][2].values():
                count += too_much(group, one.frame(f, point), other.frame(f, point))
    return faults if count else [*faults, "count"]


def most_faults(one, other, number, world, moment, count):
    program = one.program
    if moment is not None and not 0 <= moment < count_moments(program, world):
        return ["moment"]
    faults = []
    if len(held_at(program, world, moment)) > (1 if moment is None else 0):
        faults.append("held")
    if len(set(kept_at(one, world, moment)) - set(kept_at(other, world, moment))) != number:
        faults.append("number")
    return faults + sorted(count_faults(one, other, number, count))


def faults(one, other, value):
    """What is wrong with an answer of grown."""
    if value[0] == "most":
        return most_faults(one, other, *value[1:])
    return round_faults(one, other, *value[1:])
