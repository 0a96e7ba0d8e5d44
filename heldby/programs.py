"""Programs: trees of functions that were looked at, and what follows from their texts."""

from heldby.courses import check_courses, check_ends, shortest_courses
from heldby.errors import UnknownName
from heldby.needs import captured_of, needs_of, used_functions, uses_of
from heldby.scopes import check_scopes
from heldby.shapes import check_shape
from heldby.sizes import check_sizes
from heldby.trees import chains_of, functions_inside, own_things, own_variables


class Program:
    """A main function with all functions inside it."""

    def __init__(self, main):
        check_shape(main)
        check_scopes(main)
        self._main = main
        self._table = {function.name: function for function in functions_inside(main)}
        self._order = tuple(self._table)
        courses = shortest_courses(main)
        check_ends(courses, self._order)
        check_sizes(main)
        check_courses(courses)
        chains = chains_of(main)
        self._chains = {name: tuple([function.name for function in chains[name]]) for name in chains}
        self._used = used_functions(main)
        self._uses = uses_of(main)
        self._needs = needs_of(main)
        self._captured = captured_of(main, self._needs, self._used)

    @property
    def main(self):
        """The main Function."""
        return self._main

    @property
    def functions(self):
        """The names of all functions, each ahead of its inner ones."""
        return self._order

    @property
    def used(self):
        """The names of the used functions, in the same order."""
        return self._used

    def __eq__(self, other):
        return isinstance(other, Program) and self._main == other._main

    def __len__(self):
        return len(self._order)

    def __contains__(self, name):
        # A value that is no string may have no place in a dict.
        return isinstance(name, str) and name in self._table

    def function(self, name):
        """The Function with this name."""
        self._check_known(name)
        return self._table[name]

    def parent(self, name):
        """The name of the function around this one, None for main."""
        self._check_known(name)
        chain = self._chains[name]
        return chain[-2] if len(chain) > 1 else None

    def chain(self, name):
        """The names of the functions from main to this one."""
        self._check_known(name)
        return self._chains[name]

    def variables(self, name):
        """The parameters, things and numbers of the function."""
        self._check_known(name)
        return tuple(own_variables(self._table[name]))

    def chain_things(self, name):
        """The thing variables of the chain of the function."""
        self._check_known(name)
        return tuple([thing for around in self._chains[name] for thing in own_things(self._table[around])])

    def uses(self, name):
        """The visible variables that the body of the function shows, adds to or passes on."""
        self._check_known(name)
        return self._uses[name]

    def needs(self, name):
        """The variables of functions around that it needs, by itself or for what it calls or gives."""
        self._check_known(name)
        return self._needs[name]

    def captured(self, name):
        """Its own variables that a used function needs."""
        self._check_known(name)
        return self._captured[name]

    def _check_known(self, name):
        if name not in self:
            raise UnknownName(name)
