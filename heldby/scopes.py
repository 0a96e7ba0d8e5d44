"""Whether the names of a program are different, visible, and used as what they are."""

from heldby.errors import DuplicateName, UnknownName, WrongCount, WrongKind
from heldby.statements import Add, Call, Give, Show
from heldby.trees import functions_inside, own_variables


def check_different(main):
    """Raises DuplicateName for the first name that stands ahead of itself."""
    ahead = {}
    for function in functions_inside(main):
        for name in [function.name, *own_variables(function)]:
            if name in ahead:
                raise DuplicateName(name)
            ahead[name] = True


def check_scopes(outline):
    """Raises the error that comes first, each kind ahead of the next one, wherever they stand in the text."""
    _check_visible(outline)
    statements = [statement for function in outline.by_bodies for statement in outline.statements[function.name]]
    _check_kinds(outline, statements)
    _check_counts(outline, statements)


def _check_visible(outline):
    for function in outline.by_bodies:
        variables = outline.visible[function.name]
        # Main is no inner function, so it is not among them, and cannot be called or given.
        functions = {inner.name: True for around in outline.chains[function.name] for inner in around.functions}
        for statement in outline.statements[function.name]:
            unknown = _unknown(statement, variables, functions)
            if unknown:
                raise UnknownName(unknown[0])


def _unknown(statement, variables, functions):
    """The names in a statement that are not visible, in their order."""
    if isinstance(statement, (Show, Add)):
        return _missing([statement.name], variables)
    if isinstance(statement, Give):
        return _missing([statement.name], functions)
    if isinstance(statement, Call):
        return _missing([statement.name], functions) + _missing(statement.things, variables)
    return []


def _missing(names, known):
    return [name for name in names if name not in known]


def _check_kinds(outline, statements):
    numbers = {name: True for function in outline.inside for name in function.numbers}
    for statement in statements:
        if isinstance(statement, Add) and statement.name not in numbers:
            raise WrongKind(statement.name)
        if isinstance(statement, Call):
            for name in statement.things:
                if name in numbers:
                    raise WrongKind(name)


def _check_counts(outline, statements):
    counts = {function.name: len(function.parameters) for function in outline.inside}
    for statement in statements:
        if isinstance(statement, Call) and len(statement.things) != counts[statement.name]:
            raise WrongCount(statement.name)
