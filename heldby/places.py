"""The points of a body: what is done next at each, and what may still be done."""

from heldby.statements import Either
from heldby.trees import all_statements, called_or_given, mentioned


def steps_of(body):
    """A dict from each point, ascending, to a tuple (statement, after): what is done next, and the point behind it.

    At the end of a list the statement is None, and after is the point behind its Either; None at the end of the body.
    """
    steps = {}
    _add_steps(steps, body, (), None)
    return {point: steps[point] for point in sorted(list(steps))}


def _add_steps(steps, statements, beginning, behind):
    ahead = beginning
    for index, statement in enumerate(statements):
        after = (*beginning, index)
        steps[ahead] = (statement, after)
        if isinstance(statement, Either):
            _add_steps(steps, statement.one, (*after, 0), after)
            _add_steps(steps, statement.other, (*after, 1), after)
        ahead = after
    steps[ahead] = (None, behind)


def rests_of(steps):
    """A tuple of (point, variables, functions) for all points, ascending, from the steps of a body.

    The variables are those that the rest at the point uses, the functions those that it calls or gives.
    """
    rows = []
    for point in steps:
        rest = all_statements(_rest_at(steps, point))
        rows.append((point, tuple(mentioned(rest)), tuple(called_or_given(rest))))
    return tuple(rows)


def _rest_at(steps, point):
    """The statements that may still be done, an Either with both its lists."""
    rest = []
    while point is not None:
        statement, point = steps[point]
        if statement is not None:
            rest.append(statement)
    return rest
