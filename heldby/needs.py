"""Which functions a program uses, and which variables they use, need and have captured.

Bodies are dicts from the names of all functions to what is used in them: tuples of the variables that a body shows,
adds to or passes on, and of the functions that it calls or gives.
"""


def used_functions(outline, bodies):
    """The names of main and of each function that a used function calls or gives, in the order of the text."""
    main = outline.inside[0].name
    used = {main: True}
    waiting = [main]
    while waiting:
        for name in bodies[waiting.pop()][1]:
            if name not in used:
                used[name] = True
                waiting.append(name)
    return tuple([function.name for function in outline.inside if function.name in used])


def uses_of(outline, bodies):
    """A dict from the names of all functions to the variables that their own bodies use, by chains."""
    return {name: _by_chain(outline, name, bodies[name][0]) for name in bodies}


def needs_of(outline, bodies):
    """A dict from the names of all functions to the variables of functions around that they need, by chains."""
    needs = {name: _outer(outline, name, bodies[name][0]) for name in bodies}
    changed = True
    # The least sets: begin with what the bodies use, and go on until nothing more follows.
    while changed:
        changed = False
        for function in outline.by_bodies:
            name = function.name
            asked = [variable for called in bodies[name][1] for variable in needs[called]]
            for variable in _outer(outline, name, asked):
                if variable not in needs[name]:
                    needs[name][variable] = True
                    changed = True
    return {name: _by_chain(outline, name, needs[name]) for name in needs}


def captured_of(outline, needs, used):
    """A dict from the names of all functions to those of their own variables that a used function needs."""
    needed = {variable: True for name in used for variable in needs[name]}
    return {name: tuple([variable for variable in own if variable in needed]) for name, own in outline.own.items()}


def _outer(outline, name, variables):
    """A dict of those variables that are not the function's own ones, so they belong to functions around it."""
    own = outline.own[name]
    return {variable: True for variable in variables if variable not in own}


def _by_chain(outline, name, wanted):
    """The variables of the chain of a function that are among the wanted ones, in the order of the text."""
    return tuple([variable for variable in outline.visible[name] if variable in wanted])
