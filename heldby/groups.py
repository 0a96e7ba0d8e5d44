"""Following all things at once: stands and closures, tuples (function, groups), and where calls and gives lead.

A group is a tuple (names, by_one, by_other): the names hold one thing, which a frame farther down keeps or not.
"""

from heldby.leads import meet, outer_things, passes_to
from heldby.statements import Call, Give


class Groups:
    """What becomes of the groups of stands for two keepers of one program."""

    def __init__(self, one, other):
        self._one = one
        self._other = other
        self._program = one.program
        self._calls = {name: self._calls_in(name) for name in self._program.used}
        self._gives = {name: self._gives_in(name) for name in self._program.used}
        self._places = {name: self._places_in(name) for name in self._program.used}
        self._known = {}

    def _calls_in(self, name):
        """A list of (points, callee, passes, pair); calls that lead alike are one, at several points."""
        rows = {}
        for statement, after in list(self._program.steps(name).values()):
            if isinstance(statement, Call):
                key = (statement.name, statement.things, self._pair(name, after))
                rows.setdefault(key, []).append(after)
        return [
            (rows[key], key[0], passes_to(self._program, key[0], key[1]), key[2]) for key in rows
        ]

    def _gives_in(self, name):
        """A dict from the functions that a function gives to the points behind the gives."""
        rows = {}
        for statement, after in list(self._program.steps(name).values()):
            if isinstance(statement, Give):
                rows.setdefault(statement.name, []).append(after)
        return rows

    def _places_in(self, name):
        """A dict from what a frame of the function keeps by one and by other to the points at which it does."""
        rows = {}
        for point in self._program.steps(name):
            rows.setdefault(self._pair(name, point), []).append(point)
        return rows

    def _pair(self, name, point):
        return (self._one.frame(name, point), self._other.frame(name, point))

    def main_closure(self):
        """The closure of main, which has no groups."""
        return (self._program.functions[0], ())

    def start_of(self, closure):
        """The stand to which a call of a closure by the world leads."""
        name, groups = closure
        parameters = self._program.function(name).parameters
        own = [((parameter,), False, False) for parameter in parameters] + self._fresh_groups(name)
        return (name, tuple(sorted(list(groups) + own)))

    def _fresh_groups(self, name):
        """The groups of the things that are made at the entry of a function."""
        return [((thing,), False, False) for thing in self._program.function(name).things]

    def calls_from(self, stand):
        """A list of (points, stand, count) for the calls of a stand: where they lead, and what they count."""
        name, groups = stand
        rows = []
        for at, row in enumerate(self._calls[name]):
            points, callee = row[0], row[1]
            further = self._fresh_groups(callee)
            count = 0
            for names, by_one, by_other in groups:
                gets, keeps_one, keeps_other = self._led(name, at, names)
                kept_one, kept_other = by_one or keeps_one, by_other or keeps_other
                if gets:
                    further.append((gets, kept_one, kept_other))
                elif kept_one and not kept_other:
                    count += 1
            rows.append((points, (callee, tuple(sorted(further))), count))
        return rows

    def _led(self, name, at, names):
        """The names that get the thing of these by a call, and whether the calling frame keeps it by one, by other."""
        key = (name, at, names)
        if key not in self._known:
            _, _, passes, pair = self._calls[name][at]
            gets = tuple(sorted([get for thing in names for get in passes.get(thing, ())]))
            self._known[key] = (gets, meet(names, pair[0]), meet(names, pair[1]))
        return self._known[key]

    def gives_from(self, stand):
        """A list of (points, closure) for the gives of a stand."""
        name, groups = stand
        return [(points, (given, self._outer(given, groups))) for given, points in self._gives[name].items()]

    def _outer(self, name, groups):
        """The groups of the variables of the functions around a function, as its closure has them."""
        outer = outer_things(self._program, name)
        rows = [tuple([thing for thing in names if thing in outer]) for names, _, _ in groups]
        return tuple(sorted([(names, False, False) for names in rows if names]))

    def excesses_at(self, stand):
        """A list of (number, points): how many groups are too much with a frame of the stand at these points."""
        name, groups = stand
        rows = []
        for pair, points in self._places[name].items():
            rows.append((_count_too_much(groups, pair), points))
        return rows

    def excess_of(self, closure):
        """How many groups are too much with a closure."""
        name, groups = closure
        return _count_too_much(groups, (self._one.closure(name), self._other.closure(name)))


def _count_too_much(groups, pair):
    """How many groups one keeps and other does not, in the whole stack or by the pair of what is kept on top."""
    by_one, by_other = pair
    count = 0
    for names, kept_one, kept_other in groups:
        if (kept_one or meet(names, by_one)) and not (kept_other or meet(names, by_other)):
            count += 1
    return count


def without_bools(stand):
    """The stand with all bools made False."""
    name, groups = stand
    return (name, tuple([(names, False, False) for names, _, _ in groups]))
