"""The records of the used functions of a program: their units, and what is kept by these."""

from heldby.items import least_items, owner_of


def records_of(program, bundles, linked):
    """The Records for some bundles and some linked functions, the last ones of the program if they are for the same.

    Layouts that are made one after the other often differ in their opened functions alone, as in a family.
    """
    key = (bundles, linked)
    last = program.last_records
    if key not in last:
        last.clear()
        last[key] = Records(program, bundles, linked)
    return last[key]


class Records:
    """The records for some bundles and some linked functions, which are as told.

    `closures` has what the closures of all functions keep, nothing for those that are not used.
    """

    def __init__(self, program, bundles, linked):
        self._program = program
        self._linked = linked
        self._places = {variable: ("alone", variable) for variable in program.captured_owners}
        for bundle in bundles:
            for variable in bundle:
                self._places[variable] = ("bundle", bundle)
        self.wanted_items, self.recorded_items = least_items(program, linked)
        self.unit_lists = {name: self._units_of(name) for name in program.used}
        self.reached = self._reached_things()
        self.closures = {name: self.reached.get(("record", name), ()) for name in program.functions}
        self._known = {}

    def _units_of(self, name):
        units = {self._unit_of(item): True for item in self.recorded_items[name]}
        return tuple(list(units))

    def _unit_of(self, item):
        return item if item[0] == "record" else self._places[item[1]]

    def _reached_things(self):
        """A dict from all units to the things that they reach."""
        numbers = self._program.number_names
        reached = {}
        for unit in list(self._places.values()):
            names = [unit[1]] if unit[0] == "alone" else unit[1]
            reached[unit] = tuple(sorted([name for name in names if name not in numbers]))
        # A record links to those of functions around its own one, which stand ahead of it.
        for name in self._program.used:
            found = [thing for unit in self.unit_lists[name] for thing in reached[unit]]
            reached[("record", name)] = tuple(sorted(set(found)))
        return reached

    def frames_of(self, name, is_opened):
        """A dict from tuples (name, point) to what the frames of a function keep at all of its points."""
        key = (name, is_opened)
        if key not in self._known:
            self._known[key] = self._made_frames(name, is_opened)
        return self._known[key]

    def _made_frames(self, name, is_opened):
        rests = self._program.rests(name)
        if name not in self._program.used:
            return {(name, rest[0]): () for rest in rests}
        # At the entry the whole body is the rest, so it has all variables and functions that other rests have.
        _, variables, functions = rests[0]
        by_variable = {variable: self._kept_for_variable(name, variable, is_opened) for variable in variables}
        by_function = {called: self._kept_for_function(name, called, is_opened) for called in functions}
        frames, known = {}, {}
        for point, used, called in rests:
            # Many points have equal rests, at which frames keep the same.
            rest = (used, called)
            if rest not in known:
                kept = [thing for variable in used for thing in by_variable[variable]]
                kept.extend([thing for function in called for thing in by_function[function]])
                known[rest] = tuple(sorted(set(kept)))
            frames[(name, point)] = known[rest]
        return frames

    def _kept_for_variable(self, name, variable, is_opened):
        """What a frame of a function keeps as long as its rest uses a variable."""
        if self._program.owners[variable] != name:
            return self._kept_for_item(name, ("variable", variable), is_opened)
        if variable not in self._program.number_names:
            return (variable,)
        # An own number that is captured lies in a cell or in a bundle.
        return self.reached[self._places[variable]] if variable in self._places else ()

    def _kept_for_function(self, name, called, is_opened):
        """What a frame of a function keeps as long as its rest calls or gives a function."""
        rows = [self._kept_for_item(name, item, is_opened) for item in self.recorded_items[called]]
        return [thing for row in rows for thing in row]

    def _kept_for_item(self, name, item, is_opened):
        """What a frame of a function keeps for an item that it needs."""
        owner = owner_of(self._program, item)
        if owner == name:
            return self.reached[self._unit_of(item)]
        if not is_opened:
            return self.reached[("record", name)]
        parent = self._program.parent(name)
        if name in self._linked and owner != parent:
            return self.reached[("record", parent)]
        return self.reached[self._unit_of(item)]
