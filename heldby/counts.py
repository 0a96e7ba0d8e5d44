"""Counts: what tells that no more things than a number are too much at any moment."""

from heldby.groups import Groups, without_bools
from heldby.leads import outer_things
from heldby.names import is_plain_integer


def least_count(stands, bounds):
    """The count of the least closures, stands and bounds, from all stands and the bounds of each."""
    main = stands.rows[0][0]
    closures = sorted([stands.groups.told(closure) for closure in stands.starts if closure[0] != main])
    rows = [stands.groups.told(stand) for stand in stands.rows]
    entered = sorted(list({without_bools(stand): True for stand in rows}))
    standing = sorted([(stand, bounds[number]) for number, stand in enumerate(rows)])
    return (tuple(closures), tuple(entered), tuple(standing))


def is_count(one, other, number, value):
    """Whether any value is a right count for the number."""
    program = one.program
    if not isinstance(value, tuple) or len(value) != 3 or not all([isinstance(part, tuple) for part in value]):
        return False
    closures, entered, standing = value
    if not all([_is_closure(program, row) for row in closures]) or not _is_ascending(closures):
        return False
    if not all([_is_plain_stand(program, row) for row in entered]) or not _is_ascending(entered):
        return False
    if not all([_is_bounded(program, row) for row in standing]) or not _is_ascending([row[0] for row in standing]):
        return False
    return _is_right(Groups(one, other), number, value)


def _is_ascending(rows):
    return all([rows[at] < rows[at + 1] for at in range(len(rows) - 1)])


def _is_closure(program, value):
    """Whether any value is a closure (function, groups)."""
    return _has_groups(program, value) and _are_groups(value[1], outer_things(program, value[0])) and _is_bare(value[1])


def _is_plain_stand(program, value):
    """Whether any value is a stand in which all bools are False."""
    return _is_stand(program, value) and _is_bare(value[1])


def _is_bounded(program, value):
    """Whether any value is a tuple (stand, bound)."""
    if not isinstance(value, tuple) or len(value) != 2:
        return False
    return _is_stand(program, value[0]) and is_plain_integer(value[1])


def _is_stand(program, value):
    return _has_groups(program, value) and _are_groups(value[1], program.chain_things(value[0]))


def _has_groups(program, value):
    """Whether any value is a tuple of a used function and a tuple."""
    if not isinstance(value, tuple) or len(value) != 2 or not isinstance(value[0], str):
        return False
    return value[0] in program.used and isinstance(value[1], tuple)


def _are_groups(groups, things):
    """Whether the members of a tuple are groups, ascending, and each of the things is in one of them."""
    if not all([_is_group(group) for group in groups]):
        return False
    names = [name for group in groups for name in group[0]]
    return sorted(names) == sorted(list(things)) and _is_ascending([group[0] for group in groups])


def _is_group(value):
    if not isinstance(value, tuple) or len(value) != 3 or not isinstance(value[0], tuple) or not value[0]:
        return False
    if not all([isinstance(name, str) for name in value[0]]) or not _is_ascending(value[0]):
        return False
    return isinstance(value[1], bool) and isinstance(value[2], bool)


def _is_bare(groups):
    return not any([by_one or by_other for _, by_one, by_other in groups])


def _is_right(groups, number, value):
    """Whether the four rules hold for parts of the right kinds."""
    closures, entered, standing = value
    known, plain = {groups.numbered(row): True for row in closures}, {groups.numbered(row): True for row in entered}
    bounds = {groups.numbered(row[0]): row[1] for row in standing}
    for start in [groups.start_of(closure) for closure in [groups.main_closure(), *known]]:
        if start not in plain or start not in bounds or bounds[start] > number:
            return False
    for closure in known:
        if groups.excess_of(closure) > number:
            return False
    for stand in plain:
        if not all([_without_bools(groups, row[1]) in plain for row in groups.calls_from(stand)]):
            return False
        if not all([row[1] in known for row in groups.gives_from(stand)]):
            return False
    return all([_is_bound(groups, stand, bounds) for stand in bounds])


def _without_bools(groups, stand):
    return groups.numbered(without_bools(groups.told(stand)))


def _is_bound(groups, stand, bounds):
    """Whether the bound of a stand is great enough."""
    for _, further, count in groups.calls_from(stand):
        if further not in bounds or bounds[further] + count > bounds[stand]:
            return False
    return all([number <= bounds[stand] for number, _ in groups.excesses_at(stand)])
