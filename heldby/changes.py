"""Changes: programs made from programs, and keepers carried over to them."""

from heldby.carrying import Move, carried_layout, carried_told
from heldby.errors import GivenAway, InUse, InvalidIndex, InvalidName, NotSame, OtherProgram, UnknownName
from heldby.layouts import Layout
from heldby.leads import outer_things
from heldby.names import is_integer, is_name
from heldby.passing import calls_of, functions_within, is_given, lifted_function, sunk_function
from heldby.programs import Program
from heldby.rewriting import grafted_function, pruned_function, renamed_function


class Change:
    """The base of all changes; nobody makes one directly."""

    def __init__(self, program, result):
        self._program = program
        self._result = result

    @property
    def program(self):
        """The program that is changed."""
        return self._program

    @property
    def result(self):
        """The program that it makes."""
        return self._result

    def __call__(self, keeper):
        """The keeper of the result that is carried over from a keeper of the program."""
        if keeper.program != self._program:
            raise OtherProgram()
        return self.carried(keeper)

    def __eq__(self, other):
        return isinstance(other, Change) and self._program == other._program and self._result == other._result

    def __add__(self, other):
        if not isinstance(other, Change):
            return NotImplemented
        if self._result != other._program:
            raise OtherProgram()
        return Joined(self, other)

    def new_names(self):
        """A dict from the names that it changes to the new ones."""
        return {}

    def moves(self):
        """The Moves of all functions that stay: without differences, if a kind of change tells no others."""
        return [Move(name, name, {}, {}) for name in self._program.functions if name in self._result]

    def carried(self, keeper):
        """The carried one of a keeper of the program; a layout stays one where its choices stay."""
        if isinstance(keeper, Layout):
            return carried_layout(keeper, self._result, self.new_names())
        return carried_told(keeper, self._result, self.moves())


class Joined(Change):
    """A change, and another one behind it."""

    def __init__(self, one, other):
        self._program = one.program
        self._result = other.result
        self._one = one
        self._other = other

    def carried(self, keeper):
        """The keeper that is carried over by the one, and then by the other."""
        return self._other.carried(self._one.carried(keeper))


class Renaming(Change):
    """Gives other names to functions and variables."""

    def __init__(self, program, names):
        known = [name for function in program.functions for name in (function, *program.variables(function))]
        for name in names:
            if not isinstance(name, str) or name not in known:
                raise UnknownName(name)
        for name in names:
            if not is_name(names[name]):
                raise InvalidName(names[name])
        self._names = {name: names[name] for name in names}
        super().__init__(program, Program(renamed_function(program.main, self._names)))

    def inverse(self):
        """The renaming back."""
        return Renaming(self._result, {self._names[name]: name for name in self._names})

    def new_names(self):
        """A dict from the names that it changes to the new ones."""
        return {name: self._names[name] for name in self._names}

    def moves(self):
        """The Moves of all functions."""
        names = self._names
        return [Move(name, names.get(name, name), names, names) for name in self._program.functions]


class Pruning(Change):
    """Takes functions out, with those inside them."""

    def __init__(self, program, *names):
        for name in names:
            if name not in program or program.parent(name) is None:
                raise UnknownName(name)
        left_out = names if names else [name for name in program.functions if name not in program.used]
        staying = [name for name in program.functions if not _have_any(program.chain(name), left_out)]
        in_use = {called: True for name in staying for called in program.rests(name)[0][2]}
        for name in left_out:
            if name in in_use:
                raise InUse(name)
        super().__init__(program, Program(pruned_function(program.main, left_out)))


def _have_any(names, others):
    return any([name in others for name in names])


class Grafting(Change):
    """Puts a function among the inner functions of another one."""

    def __init__(self, program, parent, function, *, index=0):
        if parent not in program:
            raise UnknownName(parent)
        if not is_integer(index, 0, len(program.function(parent).functions)):
            raise InvalidIndex(index)
        super().__init__(program, Program(grafted_function(program.main, parent, function, index)))


class Lifting(Change):
    """Turns a thing variable of a function around into a further parameter."""

    def __init__(self, program, name, variable, parameter):
        _check_inner(program, name)
        needed = [thing for thing in outer_things(program, name) if thing in program.needs(name)]
        if not isinstance(variable, str) or variable not in needed:
            raise UnknownName(variable)
        if is_given(program, name):
            raise GivenAway(name)
        if not is_name(parameter):
            raise InvalidName(parameter)
        self._swaps = {variable: parameter}
        self._name = name
        super().__init__(program, Program(lifted_function(program, name, variable, parameter)))

    def moves(self):
        """The Moves of all functions: the parameter is kept in the place of the variable, but not by closures."""
        swaps = self._swaps
        # A closure of the function is made ahead of the parameter.
        without = {variable: None for variable in swaps}
        return _moves_within(self._program, self._name, (without, swaps), (swaps, swaps))

    def carried(self, keeper):
        """The carried one of any keeper, a Told for layouts, too."""
        return carried_told(keeper, self._result, self.moves())


class Sinking(Change):
    """Takes out a parameter that all calls pass alike."""

    def __init__(self, program, name, parameter):
        _check_inner(program, name)
        if not isinstance(parameter, str) or parameter not in program.function(name).parameters:
            raise UnknownName(parameter)
        if is_given(program, name):
            raise GivenAway(name)
        self._name = name
        self._parameter = parameter
        self._variable = _passed_variable(program, name, parameter)
        super().__init__(program, Program(sunk_function(program, name, parameter, self._variable)))

    @property
    def variable(self):
        """The thing variable of a function around that all calls pass."""
        return self._variable

    def moves(self):
        """The Moves of all functions: the variable is kept in the place of the parameter."""
        swaps = {self._parameter: self._variable}
        return _moves_within(self._program, self._name, ({}, swaps), (swaps, swaps))

    def carried(self, keeper):
        """The carried one of any keeper, a Told for layouts, too."""
        return carried_told(keeper, self._result, self.moves())


def _check_inner(program, name):
    if name not in program or program.parent(name) is None:
        raise UnknownName(name)


def _passed_variable(program, name, parameter):
    """The one thing variable that calls pass for the parameter; raises NotSame."""
    at = program.function(name).parameters.index(parameter)
    within = functions_within(program, name)
    rows = [(caller in within, call.things[at]) for caller, call in calls_of(program, name)]
    outside = [thing for is_within, thing in rows if not is_within]
    if not outside or outside[0] not in outer_things(program, name):
        raise NotSame(parameter)
    for is_within, thing in rows:
        if thing != outside[0] and not (is_within and thing == parameter):
            raise NotSame(parameter)
    return outside[0]


def _moves_within(program, name, own, inner):
    """The Moves with these swaps, in closures and in frames, for a function and for those inside it."""
    within = functions_within(program, name)
    moves = []
    for function in program.functions:
        in_closures, in_frames = ({}, {})
        if function in within:
            in_closures, in_frames = own if function == name else inner
        moves.append(Move(function, function, in_closures, in_frames))
    return moves
