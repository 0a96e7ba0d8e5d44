"""Following a single thing: states (function, names), and those to which calls and gives lead from them."""

from heldby.statements import Call, Give


class Leads:
    """The calls and gives of the used functions of a program, and the variables that get the things of others.

    A state may also have no names: then no thing is followed yet.
    """

    def __init__(self, program):
        self._calls = {name: [] for name in program.used}
        self._gives = {name: [] for name in program.used}
        for name in program.used:
            for statement, after in list(program.steps(name).values()):
                if isinstance(statement, Call):
                    passes = passes_to(program, statement.name, statement.things)
                    self._calls[name].append((after, statement.name, passes))
                if isinstance(statement, Give):
                    self._gives[name].append((after, statement.name, passes_to(program, statement.name, ())))

    def calls_from(self, state):
        """A list of (point, state) for all calls that lead from a state anywhere, with the points behind them."""
        return _led(self._calls[state[0]], state[1])

    def gives_from(self, state):
        """Likewise for all gives."""
        return _led(self._gives[state[0]], state[1])

    def given(self):
        """A dict of the functions that a used function gives."""
        return {row[1]: True for rows in list(self._gives.values()) for row in rows}


def passes_to(program, callee, passed):
    """A dict from thing variables to the lists of the callee's ones that get their things."""
    passes = {thing: [thing] for thing in program.chain_things(program.parent(callee))}
    for parameter, thing in zip(program.function(callee).parameters, passed):
        passes.setdefault(thing, []).append(parameter)
    return passes


def _led(rows, names):
    led = []
    for point, callee, passes in rows:
        further = tuple(sorted([gets for name in names for gets in passes.get(name, ())]))
        # A thing that no variable gets is not followed; without a thing, only the call is.
        if further or not names:
            led.append((point, (callee, further)))
    return led


def starting_states(program, leads):
    """The states in which a thing is followed from its beginning: passed by the world, or made at an entry."""
    given = leads.given()
    states = []
    for name in program.used:
        if name in given or name == program.functions[0]:
            states.extend(parameter_states(program, name))
        states.extend(own_states(program, name))
    return states


def outer_things(program, name):
    """The thing variables of the functions around a function."""
    parent = program.parent(name)
    return () if parent is None else program.chain_things(parent)


def parameter_states(program, name):
    """The states in which a thing is followed that the function was just called with."""
    return [(name, (parameter,)) for parameter in program.function(name).parameters]


def own_states(program, name):
    """The states in which a thing is followed that the entry of the function just made."""
    return [(name, (thing,)) for thing in program.function(name).things]


def meet(names, others):
    """Whether a name is in both tuples."""
    for name in names:
        if name in others:
            return True
    return False
