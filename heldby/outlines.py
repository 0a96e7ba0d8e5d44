"""The functions of a program and what stands in their bodies, gathered once for all that looks at them."""

from heldby.trees import all_statements, chains_of, functions_by_bodies, functions_inside, own_things, own_variables


class Outline:
    """The functions of a main function, all of different names.

    `inside` and `by_bodies` are lists of Functions; all else are dicts from their names: `own` to their variables,
    `visible` and `things` to those and the thing variables of their chains.
    """

    def __init__(self, main):
        self.inside = functions_inside(main)
        self.by_bodies = functions_by_bodies(main)
        self.chains = chains_of(main)
        self.own = {function.name: tuple(own_variables(function)) for function in self.inside}
        self.visible = {
            name: {variable: True for around in chain for variable in self.own[around.name]}
            for name, chain in self.chains.items()
        }
        self.statements = {function.name: tuple(all_statements(function.body)) for function in self.inside}
        self.things = {
            name: tuple([thing for around in chain for thing in own_things(around)])
            for name, chain in self.chains.items()
        }
