"""The points of a body: what is done next at each, and what may still be done."""

from heldby.statements import Add, Call, Either, Show


def places_of(body):
    """The steps and the rests of a body.

    The steps are a dict from each point, ascending, to a tuple (statement, after): what is done next, and the point
    behind it. At the end of a list the statement is None, and after is the point behind its Either; None at the end of
    the body. The rests are a tuple of (point, variables, functions) for all points, ascending: the variables that the
    rest at the point uses, and the functions that it calls or gives.
    """
    steps = {}
    _add_steps(steps, body, (), None)
    rests = _rests_of(steps)
    order = sorted(list(steps))
    return {point: steps[point] for point in order}, tuple([(point, *rests[point]) for point in order])


def _add_steps(steps, statements, beginning, behind):
    ahead = beginning
    for index, statement in enumerate(statements):
        after = (*beginning, index)
        steps[ahead] = (statement, after)
        if isinstance(statement, Either):
            _add_steps(steps, statement.one, (*after, 0), after)
            _add_steps(steps, statement.other, (*after, 1), after)
        ahead = after
    steps[ahead] = (None, behind)


def _rests_of(steps):
    """A dict from each point to the variables and the functions of its rest."""
    rests = {None: ((), ())}
    # The steps are in the order of the text, so what stands behind a point is looked at first.
    for point in reversed(list(steps)):
        statement, after = steps[point]
        if statement is None:
            rests[point] = rests[after]
        elif isinstance(statement, Either):
            # What is behind the Either is in the rests of both lists.
            first, second = (*after, 0), (*after, 1)
            one, other = rests[first], rests[second]
            rests[point] = (_with_all(one[0], other[0]), _with_all(one[1], other[1]))
        else:
            rests[point] = _longer(statement, rests[after])
    return rests


def _longer(statement, rest):
    """What a rest has with one more single statement."""
    variables, functions = rest
    if isinstance(statement, (Show, Add)):
        return _with_all(variables, (statement.name,)), functions
    if isinstance(statement, Call):
        variables = _with_all(variables, statement.things)
    return variables, _with_all(functions, (statement.name,))


def _with_all(names, others):
    """The names, and behind them those of the others that are not among them, each once."""
    new = {name: True for name in others if name not in names}
    return (*names, *new) if new else names
