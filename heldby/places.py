"""The points of a body: what is done next at each, and what may still be done."""

from heldby.statements import Add, Call, Either, Show


def places_of(body):
    """The steps and the rests of a body.

    The steps are a dict from each point, ascending, to a tuple (statement, after): what is done next, and the point
    behind it. At the end of a list the statement is None, and after is the point behind its Either; None at the end of
    the body. The rests are a tuple of (point, variables, functions) for all points, ascending: the variables that the
    rest at the point uses, and the functions that it calls or gives.
    """
    steps = {}
    _add_steps(steps, body, (), None)
    rests = _rests_of(steps)
    order = sorted(list(steps))
    return {point: steps[point] for point in order}, tuple([(point, *rests[point]) for point in order])


def _add_steps(steps, statements, beginning, behind):
    ahead = beginning
    for index, statement in enumerate(statements):
        after = (*beginning, index)
        steps[ahead] = (statement, after)
        if isinstance(statement, Either):
            _add_steps(steps, statement.one, (*after, 0), after)
            _add_steps(steps, statement.other, (*after, 1), after)
        ahead = after
    steps[ahead] = (None, behind)


def _rests_of(steps):
    """A dict from each point to the variables and the functions of its rest."""
    rests = {None: ((), ())}
    # The steps are in the order of the text, so what stands behind a point is looked at first.
    for point in reversed(list(steps)):
        statement, after = steps[point]
        if statement is None:
            rests[point] = rests[after]
        elif isinstance(statement, Either):
            first, second = (*after, 0), (*after, 1)
            rests[point] = _joined(rests[first], rests[second])
        else:
            rests[point] = _joined(rests[after], _names_in(statement))
    return rests


def _names_in(statement):
    """The variables that a single statement uses, and the functions that it calls or gives, each once."""
    if isinstance(statement, (Show, Add)):
        return (statement.name,), ()
    things = statement.things if isinstance(statement, Call) else ()
    return tuple(list({thing: True for thing in things})), (statement.name,)


def _joined(one, other):
    """The variables and the functions of two rests."""
    return _with_all(one[0], other[0]), _with_all(one[1], other[1])


def _with_all(names, others):
    """The names, and behind them those of the others that are not among them."""
    new = [name for name in others if name not in names]
    return (*names, *new) if new else names
