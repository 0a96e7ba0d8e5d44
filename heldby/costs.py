"""What the entries and the statements of the functions of a layout cost."""

from heldby.statements import Add, Call, Give, Show


class Costs:
    """The ways, and the prices of entries and statements, of a layout."""

    def __init__(self, layout):
        self._layout = layout
        self._program = layout.program
        self._owners = self._program.owners
        self._captured = self._program.captured_owners
        self._numbers = self._program.number_names
        self._bundled = {variable: True for bundle in layout.bundles for variable in bundle}

    def way(self, name, variable):
        """What it costs a used function to come to a variable that it uses."""
        is_number = variable in self._numbers
        if self._owners[variable] == name:
            return 1 if is_number and variable in self._captured else 0
        way = self._links(name, self._owners[variable])
        if name not in self._layout.opened:
            way += 1
        if is_number or variable in self._bundled:
            way += 1
        return way

    def _links(self, name, owner):
        """How many links are followed from a function to what belongs to a function around it."""
        links = 0
        while name in self._layout.linked and self._program.parent(name) != owner:
            links += 1
            name = self._program.parent(name)
        return links

    def entry_cost(self, name):
        """What an entry of a used function costs."""
        cost = sum([len(bundle) for bundle in self._layout.bundles if self._owners[bundle[0]] == name])
        for variable in self._program.captured(name):
            if variable in self._numbers and variable not in self._bundled:
                cost += 1
        return cost + self._units(name) if name in self._layout.opened else cost

    def statement_costs(self, name):
        """A dict from the points behind the statements of a used function, ascending, to what these cost."""
        rows = list(self._program.steps(name).values())
        costs = {after: self._statement(name, statement) for statement, after in rows if statement is not None}
        return {point: costs[point] for point in sorted(list(costs))}

    def _statement(self, name, statement):
        if isinstance(statement, (Show, Add)):
            return self.way(name, statement.name)
        if isinstance(statement, Give):
            return self._units(statement.name)
        if isinstance(statement, Call):
            return self._units(statement.name) + sum([self.way(name, thing) for thing in statement.things])
        return 0

    def _units(self, name):
        return len(self._layout.units(name))

    def total(self, loads):
        """The price of the layout, for the weights of all used functions."""
        cost = 0
        for name in self._program.used:
            costs = [self._statement(name, statement) for statement in self._program.body_statements(name)]
            cost += loads[name] * (self.entry_cost(name) + sum(costs))
        return cost
