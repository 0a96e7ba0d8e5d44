"""Weights: how often each used function is entered."""

from heldby.errors import InvalidWeights
from heldby.names import is_integer

HEAVIEST = 10 ** 6


def is_weight(value):
    """Whether any value is an integer that may be the weight of a function."""
    return is_integer(value, 0, HEAVIEST)


def loads_of(program, weights):
    """A dict from the used functions to their weights, 1 for those of which any value, a dict of weights, has none.

    Raises InvalidWeights; None means no weights.
    """
    loads = {name: 1 for name in program.used}
    if weights is None:
        return loads
    if not isinstance(weights, dict):
        raise InvalidWeights(weights)
    for name, weight in weights.items():
        if not isinstance(name, str) or name not in loads or not is_weight(weight):
            raise InvalidWeights(weights)
        loads[name] = weight
    return loads
