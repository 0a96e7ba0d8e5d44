"""Whether the bundles and the lists of functions of a layout are as told, and how they are put into order."""

from heldby.errors import InvalidBundle, InvalidList, UnknownName


def is_inner(program, value):
    """Whether any value is the name of a used function other than main."""
    return isinstance(value, str) and value in program.used[1:]


def chosen_bundles(program, bundles):
    """The bundles in the order of the text; raises InvalidBundle."""
    if not isinstance(bundles, (list, tuple)):
        raise InvalidBundle(-1)
    owners = program.captured_owners
    taken = {}
    for index, bundle in enumerate(bundles):
        if not _is_bundle(bundle, owners) or _has_any(bundle, taken):
            raise InvalidBundle(index)
        for variable in bundle:
            taken[variable] = True
    ordered = [tuple([name for name in owners if name in members]) for members in bundles]
    firsts = {names[0]: names for names in ordered}
    return tuple([firsts[name] for name in owners if name in firsts])


def _is_bundle(value, owners):
    """Whether any value is a list of two or more different captured variables of one function."""
    if not isinstance(value, (list, tuple)):
        return False
    for variable in value:
        if not isinstance(variable, str) or variable not in owners or owners[variable] != owners[value[0]]:
            return False
    return len(value) > 1 and len(set(value)) == len(value)


def _has_any(names, table):
    for name in names:
        if name in table:
            return True
    return False


def chosen_functions(program, word, names):
    """The functions of a list in the order of the text; raises InvalidList with the word, or UnknownName."""
    if not isinstance(names, (list, tuple)):
        raise InvalidList(word)
    for name in names:
        if not is_inner(program, name):
            raise UnknownName(name)
    return tuple([name for name in program.used if name in names])
