"""The choices of the layouts of the family of a program."""

from heldby.layouts import Layout


def switched_functions(program):
    """The used functions other than main that the layouts of the family may link and open: those that have items."""
    flat = Layout.flat(program)
    return [name for name in program.used[1:] if flat.wanted(name)]


def count_choices(program):
    """How many choices there are."""
    many = 1
    for name in program.used:
        many *= _count_partitions(len(program.captured(name)))
    for _ in switched_functions(program):
        many *= 4
    return many


def _count_partitions(size):
    """How many partitions a set of this size has, by the triangle in which each row begins with the last one's end."""
    row = [1]
    for _ in range(size):
        further = [row[-1]]
        for many in row:
            further.append(further[-1] + many)
        row = further
    return row[0]


def family_choices(program):
    """A list of tuples (bundles, linked, opened) for all layouts of the family."""
    bundlings = [()]
    for name in program.used:
        own = [_bundles_of(partition) for partition in _partitions(program.captured(name))]
        bundlings = [ahead + bundles for ahead in bundlings for bundles in own]
    chosen = _subsets(switched_functions(program))
    return [(bundles, linked, opened) for bundles in bundlings for linked in chosen for opened in chosen]


def _partitions(names):
    """All partitions of a tuple of names into tuples."""
    if not names:
        return [()]
    found = []
    for partition in _partitions(names[1:]):
        found.append(((names[0],), *partition))
        for at, part in enumerate(partition):
            found.append((*partition[:at], (names[0], *part), *partition[at + 1:]))
    return found


def _bundles_of(partition):
    return tuple([part for part in partition if len(part) > 1])


def _subsets(names):
    found = [()]
    for name in names:
        found = found + [(*subset, name) for subset in found]
    return found


def coarser_choices(program, choice, switched):
    """The choices of the family that are just coarser: one bundle, link or shut function more."""
    bundles, linked, opened = choice
    found = []
    for name in switched:
        if name not in linked:
            found.append((bundles, tuple([other for other in switched if other in linked or other == name]), opened))
        if name in opened:
            found.append((bundles, linked, tuple([other for other in opened if other != name])))
    for name in program.used:
        units = _units_of(program.captured(name), bundles)
        for at, one in enumerate(units):
            for other in units[at + 1:]:
                found.append((_joined(program, bundles, one + other), linked, opened))
    return found


def _units_of(captured, bundles):
    """The bundles of a function and its other captured variables, as tuples."""
    bundled = {variable: True for bundle in bundles for variable in bundle}
    own = [bundle for bundle in bundles if bundle[0] in captured]
    return own + [(variable,) for variable in captured if variable not in bundled]


def _joined(program, bundles, wider):
    """The bundles, in the order of the text, with a wider one in the place of those that it has."""
    order = [variable for name in program.used for variable in program.captured(name)]
    places = {variable: at for at, variable in enumerate(order)}
    rows = [bundle for bundle in bundles if bundle[0] not in wider] + [wider]
    ordered = [tuple(sorted(list(row), key=lambda variable: places[variable])) for row in rows]
    return tuple(sorted(ordered, key=lambda row: places[row[0]]))
