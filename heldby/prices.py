"""What layouts cost, and the cheapest and the coarsest ones that are let."""

from heldby.costs import Costs
from heldby.errors import InvalidNumber, TooMany, UnknownName
from heldby.families import coarser_choices, count_choices, family_choices, switched_functions
from heldby.layouts import Layout
from heldby.leaking import Leaking
from heldby.limits import FAMILY
from heldby.names import is_integer
from heldby.safety import Safety
from heldby.seeing import played
from heldby.weighing import loads_of

MOST_GROWTH = 100


def way_of(layout, name, variable):
    """What it costs a used function to come to a variable that it uses."""
    _check_used(layout, name)
    if not isinstance(variable, str) or variable not in layout.program.uses(name):
        raise UnknownName(variable)
    return Costs(layout).way(name, variable)


def entry_price(layout, name):
    """The price of an entry of a used function."""
    _check_used(layout, name)
    return Costs(layout).entry_cost(name)


def statement_prices(layout, name):
    """A dict from the points behind the statements of a used function to their prices."""
    _check_used(layout, name)
    return Costs(layout).statement_costs(name)


def _check_used(layout, name):
    if not isinstance(name, str) or name not in layout.program.used:
        raise UnknownName(name)


def price(layout, weights=None):
    """The price of a layout, by weights of used functions; those that have none have 1."""
    return Costs(layout).total(loads_of(layout.program, weights))


def family_size(program):
    """How many layouts the family of a program has."""
    return count_choices(program)


def family(program):
    """Yields the layouts of the family, one for each choice."""
    if count_choices(program) > FAMILY:
        raise TooMany(FAMILY)
    for bundles, linked, opened in family_choices(program):
        yield Layout(program, bundles=bundles, linked=linked, opened=opened)


def paid(layout, world):
    """The sum of the prices of all entries and statements that are done in a world."""
    tally = played(layout.program, world, ()).tally
    costs = Costs(layout)
    statements = {name: costs.statement_costs(name) for name in layout.program.used}
    total = 0
    for (name, point), times in tally.items():
        total += times * (costs.entry_cost(name) if point == () else statements[name][point])
    return total


def cheapest(program, weights=None, *, most=0):
    """Any layout of the family with the least price of those whose growth beside Plain is at most this one."""
    loads = loads_of(program, weights)
    if most is not None and not is_integer(most, 0, MOST_GROWTH):
        raise InvalidNumber(most)
    layouts = list(family(program))
    leaking = Leaking(program, most)
    # Equal prices are told apart by their places, so that layouts are not compared.
    rows = sorted([(Costs(layout).total(loads), at) for at, layout in enumerate(layouts)])
    ordered = [layouts[at] for _, at in rows]
    return leaking.first(ordered)


def least_price(program, weights=None, *, most=0):
    """The price of the cheapest layout."""
    return price(cheapest(program, weights, most=most), weights)


def mends(layout):
    """The single changes each of which makes a layout that keeps no more than Plain, if the layout keeps more."""
    safety = Safety(layout.program)
    if safety.is_safe(layout):
        return []
    found = []
    for index, bundle in enumerate(layout.bundles):
        found.append((("split", bundle), layout.unbundled(index)))
    for name in layout.linked:
        found.append((("unlink", name), layout.with_link(name, False)))
    for name in layout.program.used[1:]:
        if name not in layout.opened:
            found.append((("open", name), layout.with_open(name, True)))
    return [change for change, mended in found if safety.is_safe(mended)]


def coarsest(program):
    """The layouts of the family that keep no more than Plain, without those of which a coarser one does so, too."""
    safety = Safety(program)
    layouts = list(family(program))
    safe = {layout.choice(): layout for layout in layouts if safety.is_safe(layout)}
    switched = switched_functions(program)
    # A layout that refines one that keeps no more keeps no more: so a step to the next coarser ones tells all.
    return [safe[choice] for choice in safe if not _any_in(coarser_choices(program, choice, switched), safe)]


def _any_in(choices, safe):
    return any([choice in safe for choice in choices])
