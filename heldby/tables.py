"""Tables that tell of two keepers that one keeps no more than the other."""

from heldby.leads import Leads, meet, outer_things, starting_states


def least_table(one, other):
    """The least held, entered and standing that keep the rules 1 to 4 of tables, ascending tuples of states."""
    program = one.program
    leads = Leads(program)
    starts = starting_states(program, leads)
    held, entered = _entered_sets(leads, starts)
    standing = _standing_set(leads, starts + list(held), other)
    return _ascending(held), _ascending(entered), _ascending(standing)


def _ascending(states):
    return tuple(sorted(list(states)))


def _entered_sets(leads, starts):
    """Two dicts of the states with which a closure is held, and with which a function is entered."""
    held = {}
    entered = {state: True for state in starts}
    waiting = list(starts)
    while waiting:
        state = waiting.pop()
        given = [further for _, further in leads.gives_from(state)]
        for further in given:
            held[further] = True
        # What is held may be called by the world, too.
        for further in given + [further for _, further in leads.calls_from(state)]:
            if further not in entered:
                entered[further] = True
                waiting.append(further)
    return held, entered


def _standing_set(leads, starts, other):
    """A dict of the states with which a function is entered while nothing else keeps the thing by other."""
    standing = {state: True for state in starts}
    waiting = list(standing)
    while waiting:
        state = waiting.pop()
        for further in _uncovered(leads, state, other):
            if further not in standing:
                standing[further] = True
                waiting.append(further)
    return standing


def _uncovered(leads, state, other):
    """The states to which those calls lead during which the calling frame keeps none of the names by other."""
    name, names = state
    return [further for point, further in leads.calls_from(state) if not meet(names, other.frame_at(name, point))]


def is_table(one, other, value):
    """Whether a tuple of three values of any kind, held, entered and standing, keeps the rules of tables."""
    program = one.program
    held, entered, standing = value
    if not all([_are_states(program, states) for states in value]):
        return False
    for name, names in held:
        if not _has_all(names, outer_things(program, name)):
            return False
    return _is_closed(one, other, value) and not broken(one, other, held, standing)


def _are_states(program, value):
    """Whether any value is an ascending tuple of different states."""
    if not isinstance(value, tuple) or not all([_is_state(program, state) for state in value]):
        return False
    return _is_ascending(value)


def _is_state(program, value):
    if not isinstance(value, tuple) or len(value) != 2:
        return False
    name, names = value
    if not isinstance(name, str) or name not in program.used or not isinstance(names, tuple) or not names:
        return False
    if not all([isinstance(thing, str) for thing in names]):
        return False
    return _is_ascending(names) and _has_all(names, program.chain_things(name))


def _is_ascending(value):
    return all([value[at] < value[at + 1] for at in range(len(value) - 1)])


def _has_all(names, others):
    return all([name in others for name in names])


def _is_closed(one, other, value):
    """Whether three tuples of states keep the rules 1 to 4."""
    leads = Leads(one.program)
    starts = starting_states(one.program, leads)
    held, entered, standing = [{row: True for row in states} for states in value]
    if not _has_all(starts + list(held), entered) or not _has_all(starts + list(held), standing):
        return False
    for state in entered:
        if not _has_all([further for _, further in leads.calls_from(state)], entered):
            return False
        if not _has_all([further for _, further in leads.gives_from(state)], held):
            return False
    for state in standing:
        if not _has_all(_uncovered(leads, state, other), standing):
            return False
    return True


def broken(one, other, held, standing):
    """Whether one of the rules 5 and 6 is broken for these states."""
    for name, names in held:
        if too_much(names, one.closure(name), other.closure(name)):
            return True
    pairs = {name: frame_pairs(one, other, name) for name in one.program.used}
    for name, names in standing:
        for by_one, by_other in pairs[name]:
            if too_much(names, by_one, by_other):
                return True
    return False


def too_much(names, by_one, by_other):
    """The names by which a thing is kept that they hold, if it is kept by the one and not by the other."""
    if meet(names, by_other):
        return []
    return [name for name in names if name in by_one]


def frame_pairs(one, other, name):
    """A dict from what frames of a function keep by one and by other to the points at which they do.

    Only pairs of which the one has a name that the other has not: at no other point a thing is kept too much.
    """
    pairs = {}
    for rest in one.program.rests(name):
        pair = (one.frame_at(name, rest[0]), other.frame_at(name, rest[0]))
        if not _has_all(pair[0], pair[1]):
            pairs.setdefault(pair, []).append(rest[0])
    return pairs
