"""Whether the turns of a world are as told, as far as it can be seen ahead of playing them."""

from heldby.names import is_integer, is_plain_integer

GREATEST_THING = 10 ** 30


def is_turn(value, held):
    """Whether any value is a turn, while the closures with these numbers are held; its things are not counted."""
    if not isinstance(value, tuple) or len(value) != 5:
        return False
    closure, things, choices, takes, drops = value
    if not is_plain_integer(closure) or closure not in held:
        return False
    if not _are_integers(things, GREATEST_THING) or not _are_integers(choices, 1):
        return False
    if not _is_ascending(takes) or not _is_ascending(drops):
        return False
    return all([number in held for number in drops])


def _are_integers(value, most):
    """Whether any value is a tuple of integers from 0 to most."""
    return isinstance(value, tuple) and all([is_integer(number, 0, most) for number in value])


def _is_ascending(value):
    """Whether any value is an ascending tuple of different integers from 0 on."""
    if not isinstance(value, tuple):
        return False
    ahead = -1
    for number in value:
        if not is_plain_integer(number) or number <= ahead:
            return False
        ahead = number
    return True
