"""The items of functions, ("variable", x) and ("record", p), and which of them their records have."""


def owners_of(program):
    """A dict from all variables to the names of their functions."""
    return {variable: name for name in program.functions for variable in program.variables(name)}


def owner_of(item, owners):
    """The function to which an item belongs."""
    kind, name = item
    return name if kind == "record" else owners[name]


def least_items(program, linked):
    """Two dicts from the used functions to tuples: of their items, and of their recorded items."""
    wanted = {name: () for name in program.used}
    recorded = {name: () for name in program.used}
    changed = True
    # The least sets: begin with nothing, and go on until nothing more follows.
    while changed:
        changed = False
        for name in program.used:
            items = _items_now(program, name, linked, (wanted, recorded))
            if items != wanted[name]:
                wanted[name] = items
                recorded[name] = _recorded_of(program, name, linked, items)
                changed = True
    return wanted, recorded


def _items_now(program, name, linked, known):
    """The items of a function that follow from what is known, in their order."""
    wanted, recorded = known
    found = {("variable", variable): True for variable in program.uses(name)}
    for called in _called(program, name):
        for item in recorded[called]:
            found[item] = True
    for inner in linked:
        if program.parent(inner) == name:
            for item in wanted[inner]:
                found[item] = True
    # What belongs to the function itself is no item of it, so it is not looked for.
    return tuple([item for around in program.chain(name)[:-1] for item in _owned(program, around) if item in found])


def _called(program, name):
    """The functions that a function calls or gives: its whole body is the rest at its entry."""
    return program.rests(name)[0][2]


def _owned(program, name):
    """All items that may belong to a function, in their order."""
    return [("record", name)] + [("variable", variable) for variable in program.variables(name)]


def _recorded_of(program, name, linked, items):
    if name not in linked:
        return items
    parent = program.parent(name)
    owned = _owned(program, parent)
    near = [item for item in items if item in owned]
    if len(near) < len(items) and owned[0] not in near:
        # The record of the parent stands ahead of the parent's variables.
        near = [owned[0]] + near
    return tuple(near)
