"""Comparing what two keepers keep, over all worlds."""

from heldby.building import world_of
from heldby.errors import InvalidWorld, TooLong, UnknownMoment
from heldby.keepers import check_one_program, points
from heldby.limits import MOMENTS
from heldby.names import is_plain_integer
from heldby.searching import Search
from heldby.tables import broken, frame_pairs, is_table, least_table, too_much
from heldby.worlds import kept_at


def keeps_no_more(one, other):
    """Whether in every world, at every moment, each thing that the one keeps is kept by the other one."""
    check_one_program(one, other)
    held, _, standing = least_table(one, other)
    return not broken(one, other, held, standing)


def compared(one, other):
    """("table", held, entered, standing) if the one keeps no more, otherwise ("world", world, moment, thing)."""
    check_one_program(one, other)
    held, entered, standing = least_table(one, other)
    if not broken(one, other, held, standing):
        return ("table", held, entered, standing)
    steps = Search(one, other).path()
    if steps is None:
        # There are such worlds, but each of them has a turn that is too long to be played.
        raise TooLong(MOMENTS)
    world, moment = world_of(one.program, steps)
    return ("world", world, moment, _thing_too_much(one, other, world, moment))


def _thing_too_much(one, other, world, moment):
    kept = kept_at(other, world, moment)
    return [thing for thing in kept_at(one, world, moment) if thing not in kept][0]


def is_compared(one, other, value):
    """Whether any value is such a tuple."""
    check_one_program(one, other)
    if not isinstance(value, tuple) or len(value) != 4:
        return False
    if value[0] == "table":
        return is_table(one, other, value[1:])
    if value[0] == "world":
        return _is_world(one, other, value[1:])
    return False


def _is_world(one, other, value):
    world, moment, thing = value
    try:
        by_one = kept_at(one, world, moment)
        by_other = kept_at(other, world, moment)
    except (InvalidWorld, TooLong, UnknownMoment):
        return False
    return is_plain_integer(thing) and thing in by_one and thing not in by_other


def excesses(one, other):
    """Where, and by which variables, the one keeps things in some world that the other does not keep."""
    check_one_program(one, other)
    held, _, standing = least_table(one, other)
    found = {}
    for name, names in held:
        for excess in too_much(names, one.closure(name), other.closure(name)):
            found[(name, None, excess)] = True
    pairs = {name: frame_pairs(one, other, name) for name in one.program.used}
    for name, names in standing:
        for pair in pairs[name]:
            for excess in too_much(names, pair[0], pair[1]):
                for point in pairs[name][pair]:
                    found[(name, point, excess)] = True
    return _in_order(one.program, found)


def _in_order(program, found):
    rows = []
    for name in program.used:
        things = sorted(list(program.chain_things(name)))
        for point in (None, *points(program, name)):
            rows.extend([(name, point, thing) for thing in things if (name, point, thing) in found])
    return rows
