"""Whether the parts of a program have the kinds of values that they must have."""

from heldby.errors import InvalidProgram
from heldby.names import is_integer, is_name
from heldby.statements import Add, Call, Either, Function, Give, Show

MOST_ADDED = 1000


def check_shape(value):
    """Raises InvalidProgram for the first place of a function, in the order of the text, that is not as told."""
    if not isinstance(value, Function) or not is_name(value.name):
        raise InvalidProgram("")
    for names in (value.parameters, value.things, value.numbers):
        if not _are_names(names):
            raise InvalidProgram(value.name)
    if not isinstance(value.functions, tuple):
        raise InvalidProgram(value.name)
    for inner in value.functions:
        check_shape(inner)
    if not _is_body(value.body):
        raise InvalidProgram(value.name)


def _are_names(value):
    return isinstance(value, tuple) and all([is_name(name) for name in value])


def _is_body(value):
    # All statements of a body have the same place, so they may be looked at in any order.
    waiting = [value]
    while waiting:
        statements = waiting.pop()
        if not isinstance(statements, tuple):
            return False
        for statement in statements:
            if isinstance(statement, Either):
                waiting.append(statement.one)
                waiting.append(statement.other)
            elif not _is_single(statement):
                return False
    return True


def _is_single(value):
    """Whether any value is a statement without lists of statements, with values as told."""
    if isinstance(value, (Show, Give)):
        return is_name(value.name)
    if isinstance(value, Add):
        return is_name(value.name) and is_integer(value.many, 1, MOST_ADDED)
    if isinstance(value, Call):
        return is_name(value.name) and _are_names(value.things)
    return False
