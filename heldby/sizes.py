"""Whether a program is within the limits of its size."""

from heldby.errors import TooMany
from heldby.limits import CHAIN, DEPTH, FUNCTIONS, STATEMENTS
from heldby.trees import all_statements, chains_of, functions_inside, own_things


def check_sizes(main):
    """Raises TooMany for the first limit that is passed."""
    functions = functions_inside(main)
    chains = list(chains_of(main).values())
    _check(len(functions), FUNCTIONS)
    _check(max([len(chain) for chain in chains]), DEPTH)
    _check(max([_count_things(chain) for chain in chains]), CHAIN)
    _check(sum([len(all_statements(function.body)) for function in functions]), STATEMENTS)


def _check(many, limit):
    if many > limit:
        raise TooMany(limit)


def _count_things(chain):
    return sum([len(own_things(function)) for function in chain])
