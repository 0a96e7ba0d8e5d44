"""Playing the turns of a world: activations, frames, and the closures that the world holds."""

from heldby.errors import InvalidWorld, TooLong
from heldby.limits import MOMENTS
from heldby.statements import Add, Call, Either, Give, Show
from heldby.turns import is_turn


class Frame:
    """A frame of a function: its activations, from main's on, and the point at which it is."""

    def __init__(self, owner, holds):
        self.owner = owner
        self.holds = holds
        self.at = ()


class Play:
    """A world that is played turn by turn.

    An activation is a dict from the thing variables and numbers of a function to what they hold.
    `held` has tuples (name, activations) under the numbers of the closures, ascending.
    """

    def __init__(self, program):
        self._functions = {name: program.function(name) for name in program.used}
        self._steps = {name: program.steps(name) for name in program.used}
        # How many functions are around a function, or around the one to which a variable belongs.
        self._levels = {name: len(program.chain(name)) - 1 for name in program.functions}
        for name in program.functions:
            for variable in program.variables(name):
                self._levels[variable] = self._levels[name]
        self.held = {0: (program.functions[0], ())}
        self._taken = 0
        self._made = 0
        self._stack = []
        self._begin(0, (), (), None)

    def play(self, index, turn, moment):
        """Plays any value as the turn with this index; what stands and is held at the moment is seen then."""
        if not is_turn(turn, self.held):
            raise InvalidWorld(index)
        closure, things, choices, takes, drops = turn
        name, around = self.held[closure]
        if len(things) != len(self._functions[name].parameters):
            raise InvalidWorld(index)
        for number in drops:
            del self.held[number]
        self._begin(index, choices, takes, moment)
        self._enter(name, around, things)
        while self._stack:
            self._go_on()
        if takes and takes[-1] >= self._offered:
            raise InvalidWorld(index)

    def content(self, holds, variable):
        """What a variable holds in these activations."""
        return holds[self._levels[variable]][variable]

    def _begin(self, index, choices, takes, moment):
        self._index = index
        self._choices = choices
        self._chosen = 0
        self._takes = {number: True for number in takes}
        self._offered = 0
        self._wanted = moment
        self.shown = []
        self.moments = 0
        self.seen = None

    def _pass_moment(self):
        if self.moments == MOMENTS:
            raise TooLong(MOMENTS)
        if self.moments == self._wanted:
            stack = [(frame.owner, frame.at, frame.holds) for frame in self._stack]
            self.seen = (stack, {number: self.held[number] for number in self.held})
        self.moments += 1

    def _enter(self, name, around, things):
        function = self._functions[name]
        own = dict(zip(function.parameters, things))
        for thing in function.things:
            self._made += 1
            own[thing] = -self._made
        for number in function.numbers:
            own[number] = 0
        self._stack.append(Frame(name, (*around, own)))
        self._pass_moment()

    def _go_on(self):
        """Does what comes next, up to the next moment or the end of a function."""
        frame = self._stack[-1]
        statement, after = self._steps[frame.owner][frame.at]
        if after is None:
            self._leave()
            return
        frame.at = after
        if isinstance(statement, Call):
            things = [self.content(frame.holds, thing) for thing in statement.things]
            self._enter(statement.name, self._around(frame, statement.name), things)
            return
        if isinstance(statement, Either):
            frame.at = (*after, self._choose())
        else:
            self._do(frame, statement)
        self._pass_moment()

    def _leave(self):
        self._stack.pop()
        # The moment behind the call is one of the frame below; if there is none, the turn has ended.
        if self._stack:
            self._pass_moment()

    def _around(self, frame, name):
        """The activations within which a function that the frame calls or gives is entered."""
        return frame.holds[:self._levels[name]]

    def _choose(self):
        if self._chosen == len(self._choices):
            raise InvalidWorld(self._index)
        self._chosen += 1
        return self._choices[self._chosen - 1]

    def _do(self, frame, statement):
        """Does a statement without moments inside; the end of a list of an Either is none."""
        if isinstance(statement, Show):
            self.shown.append((statement.name, self.content(frame.holds, statement.name)))
        if isinstance(statement, Add):
            frame.holds[self._levels[statement.name]][statement.name] += statement.many
        if isinstance(statement, Give):
            if self._offered in self._takes:
                self._taken += 1
                self.held[self._taken] = (statement.name, self._around(frame, statement.name))
            self._offered += 1
