"""Looking for a world in which one keeper keeps a thing that another one does not keep."""

from heapq import heappop, heappush

from heldby.keepers import points
from heldby.leads import Leads, meet, own_states, parameter_states
from heldby.limits import MOMENTS
from heldby.tables import too_much
from heldby.ways import Ways

# A thing is followed into frames, into frames below which nothing keeps it by other, and into closures that are held.
ENTERED = "entered"
STANDING = "standing"
HELD = "held"


class Search:
    """Follows all things at once, in each turn by calls of few moments first.

    A place is a tuple (kind, state); its cost is how many moments of its turn the functions around it have. A path is
    a tuple (path ahead, step), None at the beginning; a step is a tuple (word, function, point): "turn" for a call by
    the world, "call" and "give" with the point behind the statement, "at" with the point where the search ends.
    """

    def __init__(self, one, other):
        self._one = one
        self._other = other
        self._program = one.program
        self._leads = Leads(self._program)
        self._ways = Ways(self._program)
        self._costs = {}
        self._paths = {}
        self._queue = []

    def path(self):
        """The steps to a moment at which a thing is kept too much, None if none is found within the limit."""
        self._reach(0, (HELD, (self._program.functions[0], ())), None)
        while self._queue:
            cost, place = heappop(self._queue)
            if cost > self._costs[place]:
                continue
            kind, state = place
            path = self._paths[place]
            if kind == HELD:
                if too_much(state[1], self._one.closure(state[0]), self._other.closure(state[0])):
                    return _steps(path)
                self._call(state, path)
                continue
            point = self._point_too_much(cost, state) if kind == STANDING else None
            if point is not None:
                return _steps((path, ("at", state[0], point)))
            self._go_on(cost, kind, state, path)
        return None

    def _reach(self, cost, place, path):
        if cost > MOMENTS or (place in self._costs and self._costs[place] <= cost):
            return
        self._costs[place] = cost
        self._paths[place] = path
        heappush(self._queue, (cost, place))

    def _call(self, state, path):
        """The world calls a closure; if no thing is followed yet, it may be one that is passed."""
        name, names = state
        states = [state] if names else [state, *parameter_states(self._program, name)]
        for kind in (ENTERED, STANDING):
            for further in states:
                self._reach(0, (kind, further), (path, ("turn", name, ())))

    def _go_on(self, cost, kind, state, path):
        name, names = state
        if not names:
            for further in own_states(self._program, name):
                self._reach(cost, (kind, further), path)
        for point, further in self._leads.calls_from(state):
            if kind == ENTERED or not meet(names, self._other.frame(name, point)):
                longer = cost + self._ways.length_around(name, point)
                self._reach(longer, (kind, further), (path, ("call", name, point)))
        if kind == ENTERED:
            for point, further in self._leads.gives_from(state):
                # The turn must come to its end before the closure is called in a turn of its own.
                if cost + self._ways.length_at(name, point) <= MOMENTS:
                    self._reach(0, (HELD, further), (path, ("give", name, point)))

    def _point_too_much(self, cost, state):
        """The first point at which a frame keeps the thing too much in a turn that is no too long, or None."""
        name, names = state
        for point in points(self._program, name):
            if cost + self._ways.length_at(name, point) <= MOMENTS:
                if too_much(names, self._one.frame(name, point), self._other.frame(name, point)):
                    return point
        return None


def _steps(path):
    """The steps of a path from its beginning on."""
    steps = []
    while path is not None:
        path, step = path
        steps.append(step)
    return steps[::-1]
