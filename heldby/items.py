"""The items of functions, ("variable", x) and ("record", p), and which of them their records have."""


def items_of(name, variables):
    """A dict of all items that may belong to a function with these variables, in their order."""
    return {item: True for item in [("record", name), *[("variable", variable) for variable in variables]]}


def owner_of(program, item):
    """The function to which an item belongs."""
    kind, name = item
    return name if kind == "record" else program.owners[name]


def least_items(program, linked):
    """Two dicts from the used functions to tuples: of their items, and of their recorded items."""
    # At the entry the whole body is the rest.
    called = {name: program.rests(name)[0][2] for name in program.used}
    parents = {name: program.parent(name) for name in linked}
    inner = {name: [other for other in linked if parents[other] == name] for name in program.used}
    wanted = {name: _used_items(program, name) for name in program.used}
    recorded = {name: _recorded_of(program, name, parents, wanted[name]) for name in program.used}
    changed = True
    # The least sets: begin with what the bodies use, and go on until nothing more follows.
    while changed:
        changed = False
        # Inner functions stand behind those around them, which most often want what these want.
        for name in reversed(program.used):
            # Whoever makes a record needs its items, and whoever is linked to needs those of the linked one.
            rows = [recorded[other] for other in called[name]] + [wanted[other] for other in inner[name]]
            own, known = program.own_items[name], wanted[name]
            new = [item for row in rows for item in row if item not in known and item not in own]
            if new:
                wanted[name] = {item: True for item in [*known, *new]}
                recorded[name] = _recorded_of(program, name, parents, wanted[name])
                changed = True
    orders = {name: _possible_items(program, name) for name in program.used}
    return _in_order(wanted, orders), _in_order(recorded, orders)


def _used_items(program, name):
    """A dict of the variables of functions around that a function uses, as items."""
    return {("variable", variable): True for variable in program.uses(name) if program.owners[variable] != name}


def _recorded_of(program, name, parents, items):
    """A dict of those items that the record of a function has; parents has the parents of the linked functions."""
    if name not in parents:
        return items
    parent = parents[name]
    near = {item: True for item in items if item in program.own_items[parent]}
    if len(near) < len(items):
        near[("record", parent)] = True
    return near


def _possible_items(program, name):
    """All items that a function may have, in their order: of outer functions first, records ahead of variables."""
    return [item for around in program.chain(name)[:-1] for item in program.own_items[around]]


def _in_order(found, orders):
    return {name: tuple([item for item in orders[name] if item in found[name]]) for name in found}
