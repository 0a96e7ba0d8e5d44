"""How long turns must be at least for a world that shows a growth, by playing all turns that are not longer.

A frame is a tuple (function, point, groups): groups are those of its stand. A turn has a stack of frames, how many
things were left behind, the closure that it took, if any, a mark, if any, and whether what is looked for was seen. A
mark is a tuple (depth, stand, left behind) of an entry that may begin a round.
"""

from heldby.statements import Call, Either, Give
from tests.plain_growth import bare, call, give, start, too_much


class GrowthTurns:
    def __init__(self, one, other, number):
        """number is the growth, None for rounds."""
        self.one, self.other, self.program, self.number = one, other, one.program, number

    def least(self, most):
        """The least number of moments, up to most, such that turns of no more moments show it, or None."""
        for limit in range(1, most + 1):
            if self.shown(limit):
                return limit
        return None

    def shown(self, limit):
        known, fresh = set(), {(self.program.main.name, frozenset())}
        while fresh:
            known |= fresh
            ended = {row for closure in fresh for row in self.turns(closure, limit)}
            if any(seen for _, seen in ended):
                return True
            fresh = {taken for taken, _ in ended if taken} - known
        return False

    def turns(self, closure, limit):
        """Pairs of the closure that is taken, or None, and whether it was seen, for all whole turns of a closure."""
        name, groups = start(self.program, closure)
        stacks, ended = set(self.looks((((name, (), groups),), 0, None, None, False))), set()
        for _ in range(limit):
            further = set()
            for row in stacks:
                for after in self.next(row):
                    if after[0]:
                        further |= set(self.looks(after))
                    else:
                        ended.add((after[2], after[4] or self.is_closure(after[2])))
            stacks = further
        return ended

    def is_closure(self, taken):
        if self.number is None:
            return False
        if taken is None:
            return self.number == 0
        name, groups = taken
        kept = [self.one.closure(name), self.other.closure(name)]
        return sum(too_much(group, *kept) for group in groups) == self.number

    def looks(self, row):
        """The turn at a moment, seen or not; and with a mark at an entry, if there is none yet."""
        stack, left, taken, mark, seen = row
        name, point, groups = stack[-1]
        if self.number is not None:
            here = sum(too_much(group, self.one.frame(name, point), self.other.frame(name, point)) for group in groups)
            if taken is None and left + here == self.number:
                seen = True
            return [(stack, left, taken, None, seen)]
        if mark is not None and len(stack) < mark[0]:
            mark = None
        if mark is not None and taken is None and point == () and len(stack) > mark[0]:
            seen = seen or (mark[1] == (name, groups) and left > mark[2])
        rows = [(stack, left, taken, mark, seen)]
        if mark is None and taken is None and point == () and not seen:
            rows.append((stack, left, taken, (len(stack), (name, groups), left), seen))
        return rows

    def next(self, row):
        """What the turn may be at the next moment; without a stack if it has ended."""
        stack, left, taken, mark, seen = row
        name, point, groups = stack[-1]
        statement, after = self.program.steps(name)[point]
        if after is None:
            # What a call left behind comes back when it ends: the frame below still has it.
            return [(stack[:-1], left - self.lost(stack), taken, mark, seen)]
        here = (*stack[:-1], (name, after, groups))
        if isinstance(statement, Either):
            rows = [(*stack[:-1], (name, (*after, choice), groups)) for choice in (0, 1)]
            return [(rows_, left, taken, mark, seen) for rows_ in rows]
        if isinstance(statement, Call):
            further, count = call(self.one, self.other, (name, groups), after, statement)
            return [((*here, (further[0], (), further[1])), left + count, taken, mark, seen)]
        rows = [(here, left, taken, mark, seen)]
        if isinstance(statement, Give) and taken is None:
            rows.append((here, left, give(self.program, bare((name, groups)), statement), mark, seen))
        return rows

    def lost(self, stack):
        """How many things the call of the frame on top left behind."""
        if len(stack) == 1:
            return 0
        name, point, groups = stack[-2]
        steps = self.program.steps(name)
        statement = next(row for row, after in steps.values() if after == point and isinstance(row, Call))
        return call(self.one, self.other, (name, groups), point, statement)[1]
