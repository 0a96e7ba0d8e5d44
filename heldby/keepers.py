"""Keepers: what the closures and the frames of a program keep."""

from heldby.errors import OtherProgram, UnknownName, UnknownPoint


def points(program, name):
    """All points of a function, ascending."""
    return tuple([rest[0] for rest in program.rests(name)])


def check_one_program(one, other):
    """Raises OtherProgram if two keepers, or other things with a program, have unlike ones."""
    if one.program != other.program:
        raise OtherProgram()


class Keeper:
    """The base of all keepers; what `&` and `|` make is nothing more than one."""

    def __init__(self, program, closures, frames):
        """closures has all functions, frames all tuples (name, point); what stands there is ascending."""
        self._program = program
        self._closures = closures
        self._frames = frames

    @property
    def program(self):
        """The program of which it is a keeper."""
        return self._program

    def closure(self, name):
        """The thing variables that a closure of the function keeps, ascending."""
        if name not in self._program:
            raise UnknownName(name)
        return self._closures[name]

    def frame(self, name, point):
        """The thing variables that a frame of the function keeps at the point, ascending."""
        if name not in self._program:
            raise UnknownName(name)
        if not self._program.is_point(name, point):
            raise UnknownPoint(point)
        return self._frames[(name, point)]

    def frame_at(self, name, point):
        """The same for what is known to be a point of the function."""
        return self._frames[(name, point)]

    def __eq__(self, other):
        return (
            isinstance(other, Keeper)
            and self._program == other._program
            and self._closures == other._closures
            and self._frames == other._frames
        )

    def __and__(self, other):
        check_one_program(self, other)
        return Keeper(self._program, _shared(self._closures, other._closures), _shared(self._frames, other._frames))

    def __or__(self, other):
        check_one_program(self, other)
        return Keeper(self._program, _united(self._closures, other._closures), _united(self._frames, other._frames))


def _shared(one, other):
    """What both of two dicts with equal keys have under each key."""
    return {key: tuple([name for name in one[key] if name in other[key]]) for key in one}


def _united(one, other):
    """What one of two dicts with equal keys has under each key."""
    return {key: _ascending(one[key] + other[key]) for key in one}


def _ascending(names):
    return tuple(sorted(set(names)))


class Plain(Keeper):
    """Keeps what the program can use again, and nothing else."""

    def __init__(self, program):
        closures = {name: () for name in program.functions}
        frames = {(name, rest[0]): () for name in program.functions for rest in program.rests(name)}
        for name in program.used:
            things = program.chain_things(name)
            closures[name] = _ascending([thing for thing in things if thing in program.needs(name)])
            for point, variables, functions in program.rests(name):
                wanted = list(variables) + [needed for further in functions for needed in program.needs(further)]
                frames[(name, point)] = _ascending([thing for thing in things if thing in wanted])
        super().__init__(program, closures, frames)


class Told(Keeper):
    """Keeps what it is told: closures by names, frames by tuples (name, point)."""

    def __init__(self, program, closures, frames):
        _check_keys(program, closures, frames)
        for name in closures:
            _check_things(closures[name], program.chain_things(program.parent(name)))
        for key in frames:
            _check_things(frames[key], program.chain_things(key[0]))
        keys = [(name, rest[0]) for name in program.functions for rest in program.rests(name)]
        super().__init__(
            program,
            {name: _ascending(closures.get(name, ())) for name in program.functions},
            {key: _ascending(frames.get(key, ())) for key in keys},
        )


def _check_keys(program, closures, frames):
    for name in closures:
        if name not in program or program.parent(name) is None:
            raise UnknownName(name)
    for key in frames:
        if not isinstance(key, tuple) or len(key) != 2 or key[0] not in program:
            raise UnknownPoint(key)
        if not program.is_point(key[0], key[1]):
            raise UnknownPoint(key)


def _check_things(names, things):
    for name in names:
        if not isinstance(name, str) or name not in things:
            raise UnknownName(name)
