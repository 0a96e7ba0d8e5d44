"""Layouts: how the closures of a program lie in memory, and what they keep by that."""

from heldby.choices import chosen_bundles, chosen_functions, is_inner
from heldby.errors import InvalidIndex, NotFlag, NotJoined, UnknownName, UnknownUnit
from heldby.keepers import Keeper, check_one_program
from heldby.names import is_integer
from heldby.records import records_of


class Layout(Keeper):
    """Bundles of captured variables, linked functions and opened functions of a program."""

    def __init__(self, program, *, bundles=(), linked=(), opened=()):
        self._bundles = chosen_bundles(program, bundles)
        self._linked = chosen_functions(program, "linked", linked)
        self._opened = chosen_functions(program, "opened", opened)
        self._records = records_of(program, self._bundles, self._linked)
        super().__init__(program, self._records.closures, _frames(program, self._records, self._opened))

    @classmethod
    def flat(cls, program):
        """The layout in which each record has what it needs, and nothing else."""
        return cls(program, opened=program.used[1:])

    @classmethod
    def chained(cls, program):
        """The layout in which each function has one bundle, and links to the function around it."""
        bundles = [program.captured(name) for name in program.used]
        return cls(program, bundles=[bundle for bundle in bundles if len(bundle) > 1], linked=program.used[1:])

    @property
    def bundles(self):
        """The bundles, in the order of the text."""
        return self._bundles

    @property
    def linked(self):
        """The names of the linked functions, in the order of the text."""
        return self._linked

    @property
    def opened(self):
        """The names of the opened functions, in the order of the text."""
        return self._opened

    def choice(self):
        """The bundles, the linked and the opened functions."""
        return (self._bundles, self._linked, self._opened)

    def wanted(self, name):
        """The items of a used function: ("variable", x) and ("record", p)."""
        self._check_used(name)
        return self._records.wanted_items[name]

    def recorded(self, name):
        """Those items that the record of a used function has."""
        self._check_used(name)
        return self._records.recorded_items[name]

    def units(self, name):
        """What the record of a used function has: ("alone", x), ("bundle", (x, ..)) and ("record", p)."""
        self._check_used(name)
        return self._records.unit_lists[name]

    def reach(self, unit):
        """The thing variables that a unit reaches, ascending."""
        if not _may_be_unit(unit) or unit not in self._records.reached:
            raise UnknownUnit(unit)
        return self._records.reached[unit]

    def unbundled(self, index):
        """The layout without this bundle."""
        if not is_integer(index, 0, len(self._bundles) - 1):
            raise InvalidIndex(index)
        bundles = self._bundles[:index] + self._bundles[index + 1:]
        return Layout(self._program, bundles=bundles, linked=self._linked, opened=self._opened)

    def joined(self, one, other):
        """The layout with the units of two captured variables as one bundle."""
        owners = self._program.captured_owners
        for variable in (one, other):
            if not isinstance(variable, str) or variable not in owners:
                raise UnknownName(variable)
        if owners[one] != owners[other]:
            raise NotJoined()
        first, second = self._bundle_with(one), self._bundle_with(other)
        if first == second:
            return self
        bundles = [bundle for bundle in self._bundles if bundle not in (first, second)]
        return Layout(self._program, bundles=[*bundles, first + second], linked=self._linked, opened=self._opened)

    def with_link(self, name, on):
        """The layout with or without this function among the linked ones."""
        self._check_switch(name, on)
        linked = _switched(self._linked, name, on)
        return Layout(self._program, bundles=self._bundles, linked=linked, opened=self._opened)

    def with_open(self, name, on):
        """The layout with or without this function among the opened ones."""
        self._check_switch(name, on)
        opened = _switched(self._opened, name, on)
        return Layout(self._program, bundles=self._bundles, linked=self._linked, opened=opened)

    def refines(self, other):
        """Whether it has smaller bundles, fewer linked functions and more opened ones, or the same."""
        check_one_program(self, other)
        for bundle in self._bundles:
            if not any([_has_all(wider, bundle) for wider in other.bundles]):
                return False
        return _has_all(other.linked, self._linked) and _has_all(self._opened, other.opened)

    def _bundle_with(self, variable):
        """The bundle in which a captured variable is, or the variable alone, as a tuple."""
        for bundle in self._bundles:
            if variable in bundle:
                return bundle
        return (variable,)

    def _check_used(self, name):
        if not isinstance(name, str) or name not in self._program.used:
            raise UnknownName(name)

    def _check_switch(self, name, on):
        if not is_inner(self._program, name):
            raise UnknownName(name)
        if not isinstance(on, bool):
            raise NotFlag(on)


def _frames(program, records, opened):
    """What the frames of all functions keep at all points."""
    rows = [records.frames_of(name, name in opened) for name in program.functions]
    return {key: kept for row in rows for key, kept in row.items()}


def _may_be_unit(value):
    """Whether any value is a tuple of a string, and of a string or a tuple of strings: it has a place in a dict."""
    if not isinstance(value, tuple) or len(value) != 2 or not isinstance(value[0], str):
        return False
    names = value[1] if isinstance(value[1], tuple) else (value[1],)
    return all([isinstance(name, str) for name in names])


def _switched(names, name, on):
    others = [other for other in names if other != name]
    return [*others, name] if on else others


def _has_all(names, wanted):
    return all([name in names for name in wanted])
