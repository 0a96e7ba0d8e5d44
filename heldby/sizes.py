"""Whether a program is within the limits of its size."""

from heldby.errors import TooMany
from heldby.limits import CHAIN, DEPTH, FUNCTIONS, STATEMENTS

def check_sizes(outline):
    """Raises TooMany for the first limit that is passed."""
    _check(len(outline.inside), FUNCTIONS)
    _check(max(_lengths(outline.chains)), DEPTH)
    _check(max(_lengths(outline.things)), CHAIN)
    _check(sum(_lengths(outline.statements)), STATEMENTS)


def _check(many, limit):
    if many > limit:
        raise TooMany(limit)


def _lengths(table):
    return [len(row) for row in list(table.values())]
