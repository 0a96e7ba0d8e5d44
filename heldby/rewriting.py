"""Programs made from programs: functions and statements made anew with some differences."""

from heldby.statements import Add, Call, Either, Function, Give, Show


def remade_body(statements, remake):
    """The statements with each single one made anew by a function, in Eithers, too."""
    rows = []
    for statement in statements:
        if isinstance(statement, Either):
            rows.append(Either(remade_body(statement.one, remake), remade_body(statement.other, remake)))
        else:
            rows.append(remake(statement))
    return tuple(rows)


def renamed_statement(statement, names):
    """A single statement with new names for functions and variables."""
    name = names.get(statement.name, statement.name)
    if isinstance(statement, Show):
        return Show(name)
    if isinstance(statement, Add):
        return Add(name, statement.many)
    if isinstance(statement, Give):
        return Give(name)
    return Call(name, renamed_all(statement.things, names))


def renamed_all(listed, names):
    """A tuple of names with the new ones in the place of the old ones."""
    return tuple([names.get(name, name) for name in listed])


def renamed_function(function, names):
    """A function, with those inside it, with new names for functions and variables."""
    return Function(
        names.get(function.name, function.name),
        renamed_all(function.parameters, names),
        things=renamed_all(function.things, names),
        numbers=renamed_all(function.numbers, names),
        functions=tuple([renamed_function(inner, names) for inner in function.functions]),
        body=remade_body(function.body, lambda statement: renamed_statement(statement, names)),
    )


def pruned_function(function, names):
    """A function without those inside it that have one of the names."""
    kept = [pruned_function(inner, names) for inner in function.functions if inner.name not in names]
    return _with_functions(function, tuple(kept))


def grafted_function(function, parent, graft, index):
    """A function with one more inner function at this index of the parent."""
    inner = [grafted_function(further, parent, graft, index) for further in function.functions]
    if function.name == parent:
        inner = inner[:index] + [graft] + inner[index:]
    return _with_functions(function, tuple(inner))


def _with_functions(function, inner):
    return Function(
        function.name, function.parameters, things=function.things, numbers=function.numbers, functions=inner,
        body=function.body,
    )


def remade_function(function, remake):
    """A function, with those inside it, with parameters and bodies made anew.

    remake is called with each function; it returns its new parameters, and a function that makes a statement anew.
    """
    parameters, remake_statement = remake(function)
    return Function(
        function.name,
        parameters,
        things=function.things,
        numbers=function.numbers,
        functions=tuple([remade_function(inner, remake) for inner in function.functions]),
        body=remade_body(function.body, remake_statement),
    )
