"""Plays worlds by plain means: functions of a program are generators that stop at each moment."""

from heldby.statements import Add, Call, Either, Give, Show


class Long(Exception):
    """A turn has more moments than are wanted here."""


class Choosing:
    """Chooses by chance, and tells afterwards what was chosen."""

    def __init__(self, chance):
        self.chance = chance
        self.choices = []

    def __call__(self):
        self.choices.append(self.chance.randint(0, 1))
        return self.choices[-1]


class Played:
    """A world that was played; `seen` has a tuple (stack, held) for each moment of the last turn, None at last."""

    def __init__(self, program, world, choosing=None, most_moments=10 ** 9):
        self.program, self.choosing, self.most = program, choosing, most_moments
        self.made, self.taken, self.shows, self.seen = 0, 0, [], []
        self.held = {0: (program.main.name, {})}
        self.offered = 0
        choosing, self.choosing = self.choosing, None
        for turn in world:
            assert self.turn(turn)
        self.choosing = choosing

    def turn(self, turn):
        """Plays a turn that is as told; whether it came to its end."""
        closure, things, choices, takes, drops = turn
        self.left = list(choices)
        self.choose = self.choosing or (lambda: self.left.pop(0))
        name, around = self.held[closure]
        for number in drops:
            del self.held[number]
        self.takes, self.offered, self.stack = takes, 0, []
        self.shows.append([])
        self.seen = []
        try:
            for _ in self.entered(name, around, things):
                self.seen.append(self.look())
                if len(self.seen) > self.most:
                    raise Long()
        except (Long, RecursionError):
            return False
        self.seen.append(self.look())
        return True

    def look(self):
        stack = [(name, tuple(point), dict(own)) for name, point, own in self.stack]
        return stack, dict(self.held)

    def entered(self, name, around, things):
        """An entry; what is around is a dict from names to one-item lists, so that activations are shared."""
        function = self.program.function(name)
        holds = dict(around)
        for parameter, thing in zip(function.parameters, things):
            holds[parameter] = [thing]
        for thing in function.things:
            self.made += 1
            holds[thing] = [-self.made]
        for number in function.numbers:
            holds[number] = [0]
        point = []
        self.stack.append((name, point, holds))
        yield
        yield from self.done(function.body, holds, point)
        self.stack.pop()

    def done(self, statements, holds, point):
        point.append(None)
        for index, statement in enumerate(statements):
            if isinstance(statement, Call):
                point[-1] = index
                things = [holds[thing][0] for thing in statement.things]
                yield from self.entered(statement.name, self.visible(statement.name, holds), things)
            elif isinstance(statement, Either):
                choice = self.choose()
                point[-1:] = [index, choice]
                yield
                yield from self.done((statement.one, statement.other)[choice], holds, point)
                point[-2:] = [index]
            elif isinstance(statement, Show):
                self.shows[-1].append((statement.name, holds[statement.name][0]))
            elif isinstance(statement, Add):
                holds[statement.name][0] += statement.many
            elif statement and isinstance(statement, Give):
                if self.offered in self.takes:
                    self.taken += 1
                    self.held[self.taken] = (statement.name, self.visible(statement.name, holds))
                self.offered += 1
            point[-1] = index
            yield
        point.pop()

    def visible(self, name, holds):
        """What a function sees of the functions around it."""
        around = [v for f in self.program.chain(name)[:-1] for v in self.program.variables(f)]
        return {variable: holds[variable] for variable in around}

    def things(self, names, holds):
        return {name: holds[name][0] for name in names}

    def stack_at(self, moment):
        """What stack_at tells; -1 for the end."""
        program = self.program
        stack = [row for row in self.seen[moment][0]]
        return [
            (name, tuple(part for part in point if part is not None), self.things(program.chain_things(name), holds))
            for name, point, holds in stack
        ]

    def held_at(self, moment):
        program, rows = self.program, []
        for number, (name, around) in sorted(self.seen[moment][1].items()):
            outer = program.chain_things(program.parent(name)) if program.parent(name) is not None else ()
            rows.append((number, name, self.things(outer, around)))
        return rows

    def kept_at(self, keeper, moment):
        kept = set()
        for name, point, things in self.stack_at(moment):
            kept |= {things[variable] for variable in keeper.frame(name, point)}
        for _, name, things in self.held_at(moment):
            kept |= {things[variable] for variable in keeper.closure(name)}
        return tuple(sorted(kept))
