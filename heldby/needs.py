"""Which functions a program uses, and which variables they use, need and have captured."""

from heldby.trees import all_statements, called_or_given, chains_of, functions_inside, mentioned, own_variables


def used_functions(main):
    """The names of main and of each function that a used function calls or gives, in the order of the text."""
    called = {function.name: _reached_by(function) for function in functions_inside(main)}
    used = {main.name: True}
    waiting = [main.name]
    while waiting:
        caller = waiting.pop()
        for name in called[caller]:
            if name not in used:
                used[name] = True
                waiting.append(name)
    return tuple([name for name in called if name in used])


def uses_of(main):
    """A dict from the names of all functions to the variables that their own bodies use, by chains."""
    chains = chains_of(main)
    functions = functions_inside(main)
    return {function.name: _chosen(chains[function.name], _used_by(function)) for function in functions}


def needs_of(main):
    """A dict from the names of all functions to the variables of functions around that they need, by chains."""
    functions = functions_inside(main)
    needs = {function.name: _outer(function, _used_by(function)) for function in functions}
    changed = True
    # The least sets: begin with what the bodies use, and go on until nothing more follows.
    while changed:
        changed = False
        for function in functions:
            wider = dict(needs[function.name])
            for name in _reached_by(function):
                wider.update(_outer(function, needs[name]))
            if len(wider) > len(needs[function.name]):
                needs[function.name] = wider
                changed = True
    chains = chains_of(main)
    return {owner: _chosen(chains[owner], needs[owner]) for owner in needs}


def captured_of(main, needs, used):
    """A dict from the names of all functions to those of their own variables that a used function needs."""
    needed = {variable: True for name in used for variable in needs[name]}
    return {function.name: _chosen([function], needed) for function in functions_inside(main)}


def _used_by(function):
    """The variables that a body shows, adds to or passes on."""
    return mentioned(all_statements(function.body))


def _reached_by(function):
    """The names of the functions that a body calls or gives."""
    return called_or_given(all_statements(function.body))


def _outer(function, variables):
    """A dict of those variables that are not the function's own ones, so they belong to functions around it."""
    own = own_variables(function)
    return {name: True for name in variables if name not in own}


def _chosen(chain, wanted):
    """The variables of a list of Functions that are among the wanted ones, in the order of the text."""
    return tuple([name for function in chain for name in own_variables(function) if name in wanted])
