"""How long turns must be at least for a world that tells two keepers apart, by playing all turns that are not longer.

A single thing is followed: a frame is a tuple (function, point, names), where names are the variables that hold it, ()
for none yet; a turn has a stack of them, the closure that it took, if any, and whether something was kept too much.
"""

from heldby.statements import Call, Either, Give


class Turns:
    def __init__(self, one, other):
        self.one, self.other, self.program = one, other, one.program

    def least(self, most):
        """The least number of moments, up to most, such that turns of no more moments show it, or None."""
        for limit in range(1, most + 1):
            if self.shown(limit):
                return limit
        return None

    def shown(self, limit):
        known, fresh = set(), {(self.program.main.name, ())}
        while fresh:
            known |= fresh
            ended = self.turns(fresh, limit)
            if any(bad for _, bad in ended):
                return True
            fresh = {taken for taken, _ in ended if taken} - known
        return False

    def turns(self, closures, limit):
        """Pairs of the closure that is taken, or None, and whether something is kept too much, for all whole turns."""
        stacks, ended, seen = set(), set(), set()
        for name, names in closures:
            starts = [names] if names else [(), *[(p,) for p in self.program.function(name).parameters]]
            for held in starts:
                stacks |= self.entries((), name, held, None, False)
        for _ in range(limit):
            further = set()
            for stack, taken, bad in stacks - seen:
                bad = bad or self.is_bad(stack, taken)
                for after, took, is_end in self.next(stack, taken):
                    if is_end:
                        ended.add((took, bad or self.is_bad((), took)))
                    else:
                        further |= {(rows, took, bad) for rows in after}
            seen |= stacks
            stacks = further
        return ended

    def next(self, stack, taken):
        """What the next moment may be: tuples (stacks, taken closure, whether the turn has ended)."""
        name, point, names = stack[-1]
        statement, after = self.program.steps(name)[point]
        below, here = stack[:-1], (name, after, names)
        if after is None:
            return [([below], taken, not below)]
        if isinstance(statement, Either):
            return [([(*below, (name, (*after, choice), names)) for choice in (0, 1)], taken, False)]
        if isinstance(statement, Call):
            passed = zip(self.program.function(statement.name).parameters, statement.things)
            held = self.around(statement.name, names) + [p for p, thing in passed if thing in names]
            return [([row[0] for row in self.entries((*below, here), statement.name, held, None, False)], taken, False)]
        rows = [([(*below, here)], taken, False)]
        if isinstance(statement, Give) and taken is None:
            rows.append(([(*below, here)], (statement.name, tuple(sorted(self.around(statement.name, names)))), False))
        return rows

    def around(self, name, names):
        outer = self.program.chain_things(self.program.parent(name))
        return [thing for thing in names if thing in outer]

    def entries(self, below, name, held, taken, bad):
        """An entry; if the thing is in no variable yet, it may be one that is made now."""
        found = {((*below, (name, (), tuple(sorted(held)))), taken, bad)}
        if not held and not any(names for _, _, names in below):
            for thing in self.program.function(name).things:
                found.add(((*below, (name, (), (thing,))), taken, bad))
        return found

    def is_bad(self, stack, taken):
        kept = {"one": False, "other": False}
        for word, keeper in (("one", self.one), ("other", self.other)):
            for name, point, names in stack:
                kept[word] = kept[word] or bool(set(names) & set(keeper.frame(name, point)))
            if taken:
                kept[word] = kept[word] or bool(set(taken[1]) & set(keeper.closure(taken[0])))
        return kept["one"] and not kept["other"]
