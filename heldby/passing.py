"""Who calls and gives a function, and programs in which its calls pass one thing more or less."""

from heldby.rewriting import remade_function, renamed_statement
from heldby.statements import Call, Give


def functions_within(program, name):
    """The names of a function and of those inside it."""
    return [other for other in program.functions if name in program.chain(other)]


def is_given(program, name):
    """Whether a function of the program, used or not, gives this one."""
    for giver in program.functions:
        for statement in program.body_statements(giver):
            if isinstance(statement, Give) and statement.name == name:
                return True
    return False


def calls_of(program, name):
    """A list of tuples (caller, statement) for all calls of a function, those of functions that are not used, too."""
    found = []
    for caller in program.functions:
        for statement in program.body_statements(caller):
            if isinstance(statement, Call) and statement.name == name:
                found.append((caller, statement))
    return found


def lifted_function(program, name, variable, parameter):
    """The main function in which the function has a further parameter, in the place of the variable."""
    within = functions_within(program, name)

    def remake(function):
        swaps = {variable: parameter} if function.name in within else {}
        passed = (swaps.get(variable, variable),)
        parameters = (*function.parameters, parameter) if function.name == name else function.parameters
        return parameters, lambda statement: _with_more(renamed_statement(statement, swaps), name, passed)

    return remade_function(program.main, remake)


def _with_more(statement, name, passed):
    if isinstance(statement, Call) and statement.name == name:
        return Call(name, (*statement.things, *passed))
    return statement


def sunk_function(program, name, parameter, variable):
    """The main function in which the function does without the parameter, and uses the variable in its place."""
    within = functions_within(program, name)
    at = program.function(name).parameters.index(parameter)

    def remake(function):
        swaps = {parameter: variable} if function.name in within else {}
        # Names of a program are different, so no other function has the parameter.
        parameters = tuple([other for other in function.parameters if other != parameter])
        return parameters, lambda statement: _with_less(renamed_statement(statement, swaps), name, at)

    return remade_function(program.main, remake)


def _with_less(statement, name, at):
    if isinstance(statement, Call) and statement.name == name:
        return Call(name, statement.things[:at] + statement.things[at + 1:])
    return statement
