"""All stands to which calls by the world, and further calls from there, lead for two keepers."""

from heldby.errors import TooMany
from heldby.groups import Groups
from heldby.limits import STANDS


class Stands:
    """The stands, and the closures that are given on the way.

    `rows` has the stands by their numbers, from 0 on, `calls` the calls of each: tuples (points, number, count).
    `starts` has, by the closures, main's among them, the numbers of the stands to which calls by the world lead.
    Stands and closures have the numbers of their groups, as in heldby.groups.
    """

    def __init__(self, one, other):
        self.groups = Groups(one, other)
        self.rows = []
        self.calls = []
        self.starts = {}
        self._numbers = {}
        self._start(self.groups.main_closure())
        while len(self.calls) < len(self.rows):
            stand = self.rows[len(self.calls)]
            found = self.groups.calls_from(stand)
            self.calls.append([(points, self._numbered(further), count) for points, further, count in found])
            for _, closure in self.groups.gives_from(stand):
                if closure not in self.starts:
                    self._start(closure)

    def _start(self, closure):
        self.starts[closure] = self._numbered(self.groups.start_of(closure))

    def _numbered(self, stand):
        """The number of a stand, a new one if it is new."""
        number = self._numbers.get(stand)
        if number is None:
            number = len(self.rows)
            if number == STANDS:
                raise TooMany(STANDS)
            self._numbers[stand] = number
            self.rows.append(stand)
        return number


def knots(calls):
    """The number of its knot for each stand: stands in one knot lead to one another. Calls lead to no lesser knot."""
    order = _by_ends(calls)
    callers = [[] for _ in calls]
    for stand, rows in enumerate(calls):
        for _, further, _ in rows:
            callers[further].append(stand)
    found = {}
    many = 0
    for stand in reversed(order):
        if stand in found:
            continue
        found[stand] = many
        waiting = [stand]
        while waiting:
            for caller in callers[waiting.pop()]:
                if caller not in found:
                    found[caller] = many
                    waiting.append(caller)
        many += 1
    return [found[stand] for stand in range(len(calls))]


def _by_ends(calls):
    """The stands in an order in which each one stands behind those to which its calls lead on, but for circles."""
    order = []
    seen = {}
    for first in range(len(calls)):
        if first in seen:
            continue
        seen[first] = True
        # How many calls of each stand on the way were followed so far.
        way = [[first, 0]]
        while way:
            stand, done = way[-1]
            if done == len(calls[stand]):
                order.append(stand)
                way.pop()
                continue
            way[-1][1] += 1
            further = calls[stand][done][1]
            if further not in seen:
                seen[further] = True
                way.append([further, 0])
    return order
