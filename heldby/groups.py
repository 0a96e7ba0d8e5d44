"""Following all things at once: stands and closures, tuples (function, groups), and where calls and gives lead."""

from heldby.leads import passes_to
from heldby.passages import Numbering, Passage, Stops, is_too_much
from heldby.statements import Call, Give


class Groups:
    """What becomes of the groups of stands for two keepers of one program.

    But for `numbered` and `told`, stands and closures have the numbers of their groups, ascending: equal groups have
    equal numbers, and these are compared sooner.
    """

    def __init__(self, one, other):
        self._one = one
        self._other = other
        self._program = one.program
        self._numbering = Numbering()
        self._calls = {name: self._calls_in(name) for name in self._program.used}
        self._gives = {name: self._gives_in(name) for name in self._program.used}
        self._stops = {name: self._stops_in(name) for name in self._program.used}
        self._fresh = {name: self._fresh_numbers(name) for name in self._program.used}

    def _calls_in(self, name):
        """The Passages of the calls of a function."""
        rows = {}
        for statement, after in list(self._program.steps(name).values()):
            if isinstance(statement, Call):
                callee, pair = statement.name, self._kept_at(name, after)
                key = (callee, statement.things, pair)
                if key not in rows:
                    passes = passes_to(self._program, callee, statement.things)
                    rows[key] = Passage(self._numbering, callee, passes, pair)
                rows[key].points.append(after)
        return list(rows.values())

    def _gives_in(self, name):
        """The Passages of the gives of a function."""
        rows = {}
        for statement, after in list(self._program.steps(name).values()):
            if isinstance(statement, Give):
                given = statement.name
                if given not in rows:
                    rows[given] = Passage(self._numbering, given, passes_to(self._program, given, ()), None)
                rows[given].points.append(after)
        return list(rows.values())

    def _stops_in(self, name):
        rows = {}
        for point in self._program.steps(name):
            rows.setdefault(self._kept_at(name, point), []).append(point)
        return Stops(self._numbering, rows)

    def _kept_at(self, name, point):
        return (self._one.frame_at(name, point), self._other.frame_at(name, point))

    def _fresh_numbers(self, name):
        """The numbers of the groups of the things that are made at the entry of a function."""
        return [self._numbering.number_of(((thing,), False, False)) for thing in self._program.function(name).things]

    def numbered(self, place):
        """A stand or a closure with the numbers of its groups."""
        name, groups = place
        return (name, tuple(sorted([self._numbering.number_of(group) for group in groups])))

    def told(self, place):
        """A stand or a closure with its groups, ascending."""
        name, numbers = place
        return (name, tuple(sorted([self._numbering.group_of(number) for number in numbers])))

    def main_closure(self):
        """The closure of main, which has no groups."""
        return (self._program.functions[0], ())

    def start_of(self, closure):
        """The stand to which a call of a closure by the world leads."""
        name, numbers = closure
        parameters = self._program.function(name).parameters
        passed = [self._numbering.number_of(((parameter,), False, False)) for parameter in parameters]
        return (name, tuple(sorted([*numbers, *passed, *self._fresh[name]])))

    def calls_from(self, stand):
        """A list of (points, stand, count) for the calls of a stand: where they lead, and what they count."""
        name, numbers = stand
        rows = []
        for call in self._calls[name]:
            further, count = call.led(numbers)
            rows.append((call.points, (call.callee, tuple(sorted(further + self._fresh[call.callee]))), count))
        return rows

    def gives_from(self, stand):
        """A list of (points, closure) for the gives of a stand."""
        name, numbers = stand
        return [(give.points, (give.callee, tuple(sorted(give.led(numbers)[0])))) for give in self._gives[name]]

    def excesses_at(self, stand):
        """A list of (number, points): how many groups are too much with a frame of the stand at these points."""
        name, numbers = stand
        return self._stops[name].excesses(numbers)

    def excess_of(self, closure):
        """How many groups are too much with a closure."""
        name, groups = self.told(closure)
        pair = (self._one.closure(name), self._other.closure(name))
        return len([group for group in groups if is_too_much(group, pair)])


def without_bools(stand):
    """The stand, with its groups, with all bools made False."""
    name, groups = stand
    return (name, tuple([(names, False, False) for names, _, _ in groups]))
