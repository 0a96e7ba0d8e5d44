"""The records of the used functions of a program: their units, and the things that these reach."""

from heldby.choices import captured_owners
from heldby.items import least_items, owner_of, owners_of
from heldby.trees import own_things


class Records:
    """The records for some bundles and some linked functions, which are as told."""

    def __init__(self, program, bundles, linked):
        self._program = program
        self._linked = linked
        self._owners = owners_of(program)
        self._places = {variable: ("alone", variable) for variable in captured_owners(program)}
        for bundle in bundles:
            for variable in bundle:
                self._places[variable] = ("bundle", bundle)
        self.wanted_items, self.recorded_items = least_items(program, linked)
        self.unit_lists = {name: self._units_of(name) for name in program.used}
        self.reached = self._reached_things()

    def _units_of(self, name):
        units = {self._unit_of(item): True for item in self.recorded_items[name]}
        return tuple(list(units))

    def _unit_of(self, item):
        return item if item[0] == "record" else self._places[item[1]]

    def _reached_things(self):
        """A dict from all units to the things that they reach."""
        program = self._program
        things = {thing: True for name in program.used for thing in own_things(program.function(name))}
        reached = {}
        for unit in list(self._places.values()):
            names = [unit[1]] if unit[0] == "alone" else unit[1]
            reached[unit] = tuple(sorted([name for name in names if name in things]))
        # A record links to those of functions around its own one, which stand ahead of it.
        for name in program.used:
            found = [thing for unit in self.unit_lists[name] for thing in reached[unit]]
            reached[("record", name)] = tuple(sorted(set(found)))
        return reached

    def kept_by_closure(self, name):
        """What a closure of a used function keeps."""
        return self.reached[("record", name)]

    def kept_by_frame(self, name, rest, is_opened):
        """What a frame of a used function keeps, at a point with this rest: its variables and its functions."""
        variables, functions = rest
        own = self._program.variables(name)
        things = own_things(self._program.function(name))
        kept = [variable for variable in variables if variable in things]
        units = [self._places[variable] for variable in variables if self._is_own_place(variable, own, things)]
        outer = [("variable", variable) for variable in variables if variable not in own]
        for called in functions:
            for item in self.recorded_items[called]:
                if owner_of(item, self._owners) == name:
                    units.append(self._unit_of(item))
                else:
                    outer.append(item)
        if is_opened:
            units.extend([self._opened_unit(name, further) for further in outer])
        elif outer:
            units.append(("record", name))
        for unit in units:
            kept.extend(self.reached[unit])
        return tuple(sorted(set(kept)))

    def _is_own_place(self, variable, own, things):
        """Whether a variable is an own number that is captured, so it lies in a cell or in a bundle."""
        return variable in own and variable not in things and variable in self._places

    def _opened_unit(self, name, item):
        """The unit by which the record of a function has an item that belongs to a function around it."""
        parent = self._program.parent(name)
        if name in self._linked and owner_of(item, self._owners) != parent:
            return ("record", parent)
        return self._unit_of(item)
