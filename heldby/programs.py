"""Programs: trees of functions that were looked at, and what follows from their texts."""

from heldby.courses import check_courses, check_ends, shortest_courses
from heldby.errors import UnknownName
from heldby.items import items_of
from heldby.names import is_plain_integer
from heldby.needs import captured_of, needs_of, used_functions, uses_of
from heldby.outlines import Outline
from heldby.places import places_of
from heldby.scopes import check_different, check_scopes
from heldby.shapes import check_shape
from heldby.sizes import check_sizes


class Program:
    """A main function with all functions inside it."""

    def __init__(self, main):
        check_shape(main)
        check_different(main)
        outline = Outline(main)
        check_scopes(outline)
        self._main = main
        self._table = {function.name: function for function in outline.inside}
        self._order = tuple(self._table)
        courses = shortest_courses(main)
        check_ends(courses, self._order)
        check_sizes(outline)
        check_courses(courses)
        self._chains = {name: tuple([function.name for function in chain]) for name, chain in outline.chains.items()}
        self._variables = outline.own
        self._statements = outline.statements
        self._chain_things = outline.things
        self._places = {function.name: places_of(function.body) for function in outline.inside}
        # At the entry the whole body is the rest.
        bodies = {name: self._places[name][1][0][1:] for name in self._order}
        self._used = used_functions(outline, bodies)
        self._uses = uses_of(outline, bodies)
        self._needs = needs_of(outline, bodies)
        self._captured = captured_of(outline, self._needs, self._used)
        # What all layouts ask for again and again: whose variables and items these are, in the order of the text.
        self.owners = {variable: name for name in self._order for variable in self._variables[name]}
        self.captured_owners = {variable: name for name in self._order for variable in self._captured[name]}
        self.own_items = {name: items_of(name, outline.own[name]) for name in self._order}
        self.number_names = {number: True for function in outline.inside for number in function.numbers}
        # The Records of the last layout, by its bundles and its linked functions.
        self.last_records = {}

    @property
    def main(self):
        """The main Function."""
        return self._main

    @property
    def functions(self):
        """The names of all functions, each ahead of its inner ones."""
        return self._order

    @property
    def used(self):
        """The names of the used functions, in the same order."""
        return self._used

    def __eq__(self, other):
        return isinstance(other, Program) and self._main == other._main

    def __len__(self):
        return len(self._order)

    def __contains__(self, name):
        # A value that is no string may have no place in a dict.
        return isinstance(name, str) and name in self._table

    def function(self, name):
        """The Function with this name."""
        self._check_known(name)
        return self._table[name]

    def parent(self, name):
        """The name of the function around this one, None for main."""
        self._check_known(name)
        chain = self._chains[name]
        return chain[-2] if len(chain) > 1 else None

    def chain(self, name):
        """The names of the functions from main to this one."""
        self._check_known(name)
        return self._chains[name]

    def variables(self, name):
        """The parameters, things and numbers of the function."""
        self._check_known(name)
        return self._variables[name]

    def chain_things(self, name):
        """The thing variables of the chain of the function."""
        self._check_known(name)
        return self._chain_things[name]

    def uses(self, name):
        """The visible variables that the body of the function shows, adds to or passes on."""
        self._check_known(name)
        return self._uses[name]

    def needs(self, name):
        """The variables of functions around that it needs, by itself or for what it calls or gives."""
        self._check_known(name)
        return self._needs[name]

    def captured(self, name):
        """Its own variables that a used function needs."""
        self._check_known(name)
        return self._captured[name]

    def body_statements(self, name):
        """A tuple of all statements of the function, those in Eithers behind their Either."""
        self._check_known(name)
        return self._statements[name]

    def steps(self, name):
        """A dict from the points of the function, ascending, to what is done next, as places_of tells."""
        self._check_known(name)
        steps = self._places[name][0]
        return {point: steps[point] for point in steps}

    def rests(self, name):
        """A tuple of (point, variables, functions) for all points of the function, as places_of tells."""
        self._check_known(name)
        return self._places[name][1]

    def is_point(self, name, value):
        """Whether any value is a point of the function."""
        self._check_known(name)
        # True is equal to 1, but no part of a point; a list may have no place in a dict.
        if not isinstance(value, tuple) or not all([is_plain_integer(part) for part in value]):
            return False
        return value in self._places[name][0]

    def _check_known(self, name):
        if not isinstance(name, str) or name not in self._table:
            raise UnknownName(name)
