"""Playing the turns of a world: activations, frames, and the closures that the world holds."""

from heldby.errors import InvalidWorld, TooLong
from heldby.limits import MOMENTS
from heldby.statements import Add, Call, Either, Give, Show
from heldby.turns import is_turn


class Frame:
    """A frame of a function: its activations, from main's on, the moment of its entry, and the point at which it is."""

    def __init__(self, owner, holds, entry):
        self.owner = owner
        self.holds = holds
        self.entry = entry
        self.at = ()


class Play:
    """A world that is played turn by turn.

    An activation is a dict from the thing variables and numbers of a function to what they hold.
    `held` has tuples (name, activations) under the numbers of the closures, ascending; `taken` is the greatest number.
    `tally` tells how often a function was entered, under (name, ()), and a statement begun, under (name, point).
    """

    def __init__(self, program):
        self._functions = {name: program.function(name) for name in program.used}
        self._steps = {name: program.steps(name) for name in program.used}
        # How many functions are around a function, or around the one to which a variable belongs.
        self._levels = {name: len(program.chain(name)) - 1 for name in program.functions}
        for name in program.functions:
            for variable in program.variables(name):
                self._levels[variable] = self._levels[name]
        self.held = {0: (program.functions[0], ())}
        self.tally = {}
        self.taken = 0
        self._made = 0
        self._begin(0, ())

    def play(self, index, turn, moments):
        """Plays any value as the turn with this index; what stands and is held at the moments is seen then.

        If it raises an error, take_back makes it undone.
        """
        self._begin(index, moments)
        if not is_turn(turn, self.held):
            raise InvalidWorld(index)
        closure, things, self._choices, takes, drops = turn
        name, around = self.held[closure]
        if len(things) != len(self._functions[name].parameters):
            raise InvalidWorld(index)
        self._takes = {number: True for number in takes}
        for number in drops:
            self._dropped[number] = self.held[number]
            del self.held[number]
        self._enter(name, around, things)
        while self._stack:
            self._go_on()
        if takes and takes[-1] >= self._offered:
            raise InvalidWorld(index)

    def take_back(self):
        """Makes the last turn undone, how far it came; the tally stays."""
        for activation, name, many in self._added:
            activation[name] -= many
        self.taken, self._made = self._ahead
        rows = [(number, self.held[number]) for number in self.held if number <= self.taken]
        rows.extend([(number, self._dropped[number]) for number in self._dropped])
        self.held = {number: closure for number, closure in sorted(rows, key=lambda row: row[0])}

    def content(self, holds, variable):
        """What a variable holds in these activations."""
        return holds[self._levels[variable]][variable]

    def _begin(self, index, moments):
        self._ahead = (self.taken, self._made)
        self._added = []
        self._dropped = {}
        self._stack = []
        self._index = index
        self._choices = ()
        self._chosen = 0
        self._takes = {}
        self._offered = 0
        self._wanted = {moment: True for moment in moments}
        self.shown = []
        self.moments = 0
        self.seen = {}

    def _pass_moment(self):
        if self.moments == MOMENTS:
            raise TooLong(MOMENTS)
        if self.moments in self._wanted:
            stack = [(frame.owner, frame.at, frame.holds, frame.entry) for frame in self._stack]
            self.seen[self.moments] = (stack, {number: self.held[number] for number in self.held})
        self.moments += 1

    def _count(self, name, point):
        self.tally[(name, point)] = self.tally.get((name, point), 0) + 1

    def _enter(self, name, around, things):
        function = self._functions[name]
        own = dict(zip(function.parameters, things))
        for thing in function.things:
            self._made += 1
            own[thing] = -self._made
        for number in function.numbers:
            own[number] = 0
        self._stack.append(Frame(name, (*around, own), self.moments))
        self._count(name, ())
        self._pass_moment()

    def _go_on(self):
        """Does what comes next, up to the next moment or the end of a function."""
        frame = self._stack[-1]
        statement, after = self._steps[frame.owner][frame.at]
        if after is None:
            self._leave()
            return
        frame.at = after
        if statement is not None:
            self._count(frame.owner, after)
        if isinstance(statement, Call):
            things = [self.content(frame.holds, thing) for thing in statement.things]
            self._enter(statement.name, self._around(frame, statement.name), things)
            return
        if isinstance(statement, Either):
            frame.at = (*after, self._choose())
        else:
            self._do(frame, statement)
        self._pass_moment()

    def _leave(self):
        self._stack.pop()
        # The moment behind the call is one of the frame below; if there is none, the turn has ended.
        if self._stack:
            self._pass_moment()

    def _around(self, frame, name):
        """The activations within which a function that the frame calls or gives is entered."""
        return frame.holds[:self._levels[name]]

    def _choose(self):
        if self._chosen == len(self._choices):
            raise InvalidWorld(self._index)
        self._chosen += 1
        return self._choices[self._chosen - 1]

    def _do(self, frame, statement):
        """Does a statement without moments inside; the end of a list of an Either is none."""
        if isinstance(statement, Show):
            self.shown.append((statement.name, self.content(frame.holds, statement.name)))
        if isinstance(statement, Add):
            activation = frame.holds[self._levels[statement.name]]
            activation[statement.name] += statement.many
            self._added.append((activation, statement.name, statement.many))
        if isinstance(statement, Give):
            if self._offered in self._takes:
                self.taken += 1
                self.held[self.taken] = (statement.name, self._around(frame, statement.name))
            self._offered += 1
