"""Whether the names of a program are different, visible, and used as what they are."""

from heldby.errors import DuplicateName, UnknownName, WrongCount, WrongKind
from heldby.statements import Add, Call, Give, Show
from heldby.trees import all_statements, chains_of, functions_by_bodies, functions_inside, own_variables


def check_scopes(main):
    """Raises the error that comes first, each kind ahead of the next one, wherever they stand in the text."""
    _check_different(main)
    _check_visible(main)
    _check_kinds(main)
    _check_counts(main)


def _check_different(main):
    ahead = {}
    for function in functions_inside(main):
        for name in [function.name, *own_variables(function)]:
            if name in ahead:
                raise DuplicateName(name)
            ahead[name] = True


def _check_visible(main):
    chains = chains_of(main)
    for function in functions_by_bodies(main):
        chain = chains[function.name]
        variables = {name: True for around in chain for name in own_variables(around)}
        # Main is no inner function, so it is not among them, and cannot be called or given.
        functions = {inner.name: True for around in chain for inner in around.functions}
        for statement in all_statements(function.body):
            unknown = _unknown(statement, variables, functions)
            if unknown:
                raise UnknownName(unknown[0])


def _unknown(statement, variables, functions):
    """The names in a statement that are not visible, in their order."""
    if isinstance(statement, (Show, Add)):
        return _missing([statement.name], variables)
    if isinstance(statement, Give):
        return _missing([statement.name], functions)
    if isinstance(statement, Call):
        return _missing([statement.name], functions) + _missing(statement.things, variables)
    return []


def _missing(names, known):
    return [name for name in names if name not in known]


def _check_kinds(main):
    numbers = {name: True for function in functions_inside(main) for name in function.numbers}
    for statement in _statements(main):
        if isinstance(statement, Add) and statement.name not in numbers:
            raise WrongKind(statement.name)
        if isinstance(statement, Call):
            for name in statement.things:
                if name in numbers:
                    raise WrongKind(name)


def _check_counts(main):
    counts = {function.name: len(function.parameters) for function in functions_inside(main)}
    for statement in _statements(main):
        if isinstance(statement, Call) and len(statement.things) != counts[statement.name]:
            raise WrongCount(statement.name)


def _statements(main):
    """All statements of a program, those of inner functions ahead of those around them."""
    return [statement for function in functions_by_bodies(main) for statement in all_statements(function.body)]
