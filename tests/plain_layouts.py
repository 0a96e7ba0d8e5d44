"""Plain keepers and layouts by plain means: the sets of the document, rule by rule."""

from heldby.statements import Add, Call, Either, Give, Show


def flattened(statements):
    found = []
    for statement in statements:
        found.append(statement)
        if isinstance(statement, Either):
            found += flattened(statement.one) + flattened(statement.other)
    return found


def points_of(statements, ahead=()):
    """The points of a body, with the rest at each: a dict."""
    found = {ahead: flattened(statements)}
    for index, statement in enumerate(statements):
        behind = flattened(statements[index + 1:])
        found[(*ahead, index)] = behind
        if isinstance(statement, Either):
            for choice, part in enumerate((statement.one, statement.other)):
                for point, rest in points_of(part, (*ahead, index, choice)).items():
                    found[point] = rest + behind
    return found


def used_by(rest):
    """The variables that statements show, add to or pass on."""
    names = {statement.name for statement in rest if isinstance(statement, (Show, Add))}
    return names | {thing for statement in rest if isinstance(statement, Call) for thing in statement.things}


def reached_by(rest):
    return {statement.name for statement in rest if isinstance(statement, (Call, Give))}


def things_of(program):
    return {thing for name in program.functions for thing in program.chain_things(name)}


class PlainMeans:
    """What Plain keeps."""

    def __init__(self, program):
        self.program = program
        self.things = things_of(program)
        self.rests = {name: points_of(program.function(name).body) for name in program.functions}

    def closure(self, name):
        return set(self.program.needs(name)) & self.things if name in self.program.used else set()

    def frame(self, name, point):
        if name not in self.program.used:
            return set()
        rest = self.rests[name][point]
        needed = {variable for other in reached_by(rest) for variable in self.program.needs(other)}
        return (used_by(rest) | needed) & self.things & set(self.program.chain_things(name))


class LayoutMeans(PlainMeans):
    """What a layout keeps; items are ("variable", x) and ("record", p)."""

    def __init__(self, program, bundles, linked, opened):
        super().__init__(program)
        self.bundles, self.linked, self.opened = [frozenset(bundle) for bundle in bundles], set(linked), set(opened)
        self.items = {name: set() for name in program.used}
        self.recorded = {name: set() for name in program.used}
        while self.grow():
            pass

    def owner(self, item):
        kind, name = item
        if kind == "record":
            return name
        return next(f for f in self.program.functions if name in self.program.variables(f))

    def grow(self):
        before = str(sorted((n, sorted(s)) for t in (self.items, self.recorded) for n, s in t.items()))
        for f in self.program.used:
            around = set(self.program.chain(f)[:-1])
            body = flattened(self.program.function(f).body)
            self.items[f] |= {("variable", v) for v in used_by(body) if self.owner(("variable", v)) in around}
            for g in reached_by(body):
                self.items[f] |= {item for item in self.recorded[g] if self.owner(item) != f}
            for g in self.program.used:
                if g in self.linked and self.program.parent(g) == f:
                    self.items[f] |= {item for item in self.items[g] if self.owner(item) != f}
            if f in self.linked:
                p = self.program.parent(f)
                self.recorded[f] |= {item for item in self.items[f] if self.owner(item) == p}
                if any(self.owner(item) != p for item in self.items[f]):
                    self.recorded[f].add(("record", p))
            else:
                self.recorded[f] |= self.items[f]
        return before != str(sorted((n, sorted(s)) for t in (self.items, self.recorded) for n, s in t.items()))

    def reach_of_item(self, item):
        """What the unit of an item reaches."""
        kind, name = item
        if kind == "record":
            return self.reach_of_record(name)
        together = next((bundle for bundle in self.bundles if name in bundle), {name})
        return set(together) & self.things

    def reach_of_record(self, name):
        return {thing for item in self.recorded[name] for thing in self.reach_of_item(item)}

    def closure(self, name):
        return self.reach_of_record(name) if name in self.program.used else set()

    def frame(self, name, point):
        program = self.program
        if name not in program.used:
            return set()
        rest = self.rests[name][point]
        variables = {("variable", variable) for variable in used_by(rest)}
        needed = {item for g in reached_by(rest) for item in self.recorded[g]}
        kept = {v for _, v in variables if v in program.variables(name) and v in self.things}
        for item in needed:
            if self.owner(item) == name:
                kept |= self.reach_of_item(item)
        for _, v in variables:
            if v in program.captured(name) and v not in self.things:
                kept |= self.reach_of_item(("variable", v))
        outer = {item for item in variables | needed if self.owner(item) != name}
        if outer and name not in self.opened:
            kept |= self.reach_of_record(name)
        if name in self.opened:
            for item in outer:
                if name in self.linked and self.owner(item) != program.parent(name):
                    item = ("record", program.parent(name))
                assert item in self.recorded[name]
                kept |= self.reach_of_item(item)
        return kept
