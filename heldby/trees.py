"""The functions, variables and statements of a program, in the order of its text."""

from heldby.statements import Either


def functions_inside(function):
    """The function and all functions inside it, each ahead of its inner ones."""
    found = [function]
    for inner in function.functions:
        found.extend(functions_inside(inner))
    return found


def functions_by_bodies(function):
    """The same functions in the order in which their bodies stand: each behind its inner ones."""
    found = []
    for inner in function.functions:
        found.extend(functions_by_bodies(inner))
    found.append(function)
    return found


def chains_of(main):
    """A dict from the names of all functions to their chains, lists of Functions from main on."""
    chains = {main.name: [main]}
    for function in functions_inside(main):
        for inner in function.functions:
            chains[inner.name] = [*chains[function.name], inner]
    return chains


def own_things(function):
    """The thing variables of a function."""
    return [*function.parameters, *function.things]


def own_variables(function):
    """The variables of a function."""
    return [*function.parameters, *function.things, *function.numbers]


def all_statements(body):
    """The statements of a body, those in Eithers behind their Either."""
    found = []
    waiting = list(body[::-1])
    while waiting:
        statement = waiting.pop()
        found.append(statement)
        if isinstance(statement, Either):
            waiting.extend(statement.other[::-1])
            waiting.extend(statement.one[::-1])
    return found
