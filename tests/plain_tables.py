"""The rules of tables by plain means, and the three least sets, by trying the rules until nothing more follows."""

from heldby.statements import Call, Either, Give


def statements_at(body, ahead=()):
    for index, statement in enumerate(body):
        yield (*ahead, index), statement
        if isinstance(statement, Either):
            yield from statements_at(statement.one, (*ahead, index, 0))
            yield from statements_at(statement.other, (*ahead, index, 1))


def calls_from(program, state):
    """Tuples (point, state) of all calls that lead somewhere."""
    f, names = state
    for point, row in statements_at(program.function(f).body):
        if isinstance(row, Call):
            around = set(program.chain_things(program.parent(row.name)))
            passed = [p for p, thing in zip(program.function(row.name).parameters, row.things) if thing in names]
            left = {*[name for name in names if name in around], *passed}
            if left:
                yield point, (row.name, tuple(sorted(left)))


def gives_from(program, state):
    f, names = state
    for _, row in statements_at(program.function(f).body):
        if isinstance(row, Give):
            left = set(names) & set(program.chain_things(program.parent(row.name)))
            if left:
                yield row.name, tuple(sorted(left))


def starts(program):
    called = {program.main.name}
    for f in program.used:
        called |= {row.name for _, row in statements_at(program.function(f).body) if isinstance(row, Give)}
    return {(f, (x,)) for f in program.used for x in program.function(f).things} | {
        (f, (x,)) for f in called for x in program.function(f).parameters
    }


def meet(one, other):
    return bool(set(one) & set(other))


def faults(one, other, table):
    """The numbers of the rules that are broken."""
    program, found = one.program, set()
    held, entered, standing = [set(part) for part in table]
    if not starts(program) <= entered or not starts(program) <= standing:
        found.add(1)
    for state in entered:
        if not {further for _, further in calls_from(program, state)} <= entered:
            found.add(2)
        if not set(gives_from(program, state)) <= held:
            found.add(2)
    if not held <= entered or not held <= standing:
        found.add(3)
    for state in standing:
        for point, further in calls_from(program, state):
            if not meet(state[1], other.frame(state[0], point)) and further not in standing:
                found.add(4)
    for f, names in held:
        if meet(names, one.closure(f)) and not meet(names, other.closure(f)):
            found.add(5)
    from heldby.keepers import points
    for f, names in standing:
        for point in points(program, f):
            if meet(names, one.frame(f, point)) and not meet(names, other.frame(f, point)):
                found.add(6)
    return found


def least(one, other):
    """The least held, entered and standing, as sorted tuples."""
    program = one.program
    held, entered, standing = set(), set(starts(program)), set(starts(program))
    while True:
        before = len(held) + len(entered) + len(standing)
        for state in list(entered):
            entered |= {further for _, further in calls_from(program, state)}
            held |= set(gives_from(program, state))
        entered |= held
        standing |= held
        for state in list(standing):
            for point, further in calls_from(program, state):
                if not meet(state[1], other.frame(state[0], point)):
                    standing.add(further)
        if before == len(held) + len(entered) + len(standing):
            return tuple(sorted(held)), tuple(sorted(entered)), tuple(sorted(standing))
