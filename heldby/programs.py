"""Programs: trees of functions that were looked at, and what follows from their texts."""

from heldby.courses import check_courses, check_ends, shortest_courses
from heldby.errors import UnknownName
from heldby.names import is_plain_integer
from heldby.needs import captured_of, needs_of, used_functions, uses_of
from heldby.places import rests_of, steps_of
from heldby.scopes import check_scopes
from heldby.shapes import check_shape
from heldby.sizes import check_sizes
from heldby.trees import chains_of, functions_inside, own_things, own_variables


class Program:
    """A main function with all functions inside it."""

    def __init__(self, main):
        check_shape(main)
        check_scopes(main)
        self._main = main
        self._table = {function.name: function for function in functions_inside(main)}
        self._order = tuple(self._table)
        courses = shortest_courses(main)
        check_ends(courses, self._order)
        check_sizes(main)
        check_courses(courses)
        chains = chains_of(main)
        self._chains = {name: tuple([function.name for function in chains[name]]) for name in chains}
        self._used = used_functions(main)
        self._uses = uses_of(main)
        self._needs = needs_of(main)
        self._captured = captured_of(main, self._needs, self._used)
        self._steps = {name: steps_of(self._table[name].body) for name in self._order}
        self._rests = {name: rests_of(self._steps[name]) for name in self._order}

    @property
    def main(self):
        """The main Function."""
        return self._main

    @property
    def functions(self):
        """The names of all functions, each ahead of its inner ones."""
        return self._order

    @property
    def used(self):
        """The names of the used functions, in the same order."""
        return self._used

    def __eq__(self, other):
        return isinstance(other, Program) and self._main == other._main

    def __len__(self):
        return len(self._order)

    def __contains__(self, name):
        # A value that is no string may have no place in a dict.
        return isinstance(name, str) and name in self._table

    def function(self, name):
        """The Function with this name."""
        self._check_known(name)
        return self._table[name]

    def parent(self, name):
        """The name of the function around this one, None for main."""
        self._check_known(name)
        chain = self._chains[name]
        return chain[-2] if len(chain) > 1 else None

    def chain(self, name):
        """The names of the functions from main to this one."""
        self._check_known(name)
        return self._chains[name]

    def variables(self, name):
        """The parameters, things and numbers of the function."""
        self._check_known(name)
        return tuple(own_variables(self._table[name]))

    def chain_things(self, name):
        """The thing variables of the chain of the function."""
        self._check_known(name)
        return tuple([thing for around in self._chains[name] for thing in own_things(self._table[around])])

    def uses(self, name):
        """The visible variables that the body of the function shows, adds to or passes on."""
        self._check_known(name)
        return self._uses[name]

    def needs(self, name):
        """The variables of functions around that it needs, by itself or for what it calls or gives."""
        self._check_known(name)
        return self._needs[name]

    def captured(self, name):
        """Its own variables that a used function needs."""
        self._check_known(name)
        return self._captured[name]

    def steps(self, name):
        """A dict from the points of the function, ascending, to what is done next, as steps_of tells."""
        self._check_known(name)
        steps = self._steps[name]
        return {point: steps[point] for point in steps}

    def rests(self, name):
        """A tuple of (point, variables, functions) for all points of the function, as rests_of tells."""
        self._check_known(name)
        return self._rests[name]

    def is_point(self, name, value):
        """Whether any value is a point of the function."""
        self._check_known(name)
        # True is equal to 1, but no part of a point; a list may have no place in a dict.
        if not isinstance(value, tuple) or not all([is_plain_integer(part) for part in value]):
            return False
        return value in self._steps[name]

    def _check_known(self, name):
        if name not in self:
            raise UnknownName(name)
