"""The lines of the text of a program, and the points that stand in them."""

from heldby.statements import Add, Call, Either, Show


def written(level, words):
    """A line of a level, from a list of words and integers."""
    return "  " * level + " ".join([str(word) for word in words])


def program_lines(program):
    """A list of tuples (line, name, point); both are None for lines without a point."""
    return _function_lines(program.main, 0)


def _function_lines(function, level):
    lines = [(written(level, ["function", function.name, *function.parameters]), function.name, ())]
    for word, names in (("things", function.things), ("numbers", function.numbers)):
        if names:
            lines.append((written(level + 1, [word, *names]), None, None))
    for inner in function.functions:
        lines.extend(_function_lines(inner, level + 1))
    return lines + _list_lines(function, function.body, (), level + 1)


def _list_lines(function, statements, beginning, level):
    """The lines of a list of statements, which begins at a point."""
    lines = []
    for index, statement in enumerate(statements):
        point = (*beginning, index)
        if isinstance(statement, Either):
            for choice, word in enumerate(("either", "or")):
                inside = statement.other if choice else statement.one
                lines.append((written(level, [word]), function.name, (*point, choice)))
                lines.extend(_list_lines(function, inside, (*point, choice), level + 1))
            lines.append((written(level, ["end"]), function.name, point))
        else:
            lines.append((written(level, _statement_words(statement)), function.name, point))
    return lines


def _statement_words(statement):
    if isinstance(statement, Show):
        return ["show", statement.name]
    if isinstance(statement, Add):
        return ["add", statement.name, statement.many]
    if isinstance(statement, Call):
        return ["call", statement.name, *statement.things]
    return ["give", statement.name]
