"""Ways of a world to stands and closures, by turns of few moments.

A path is a tuple (path ahead, step), None at the beginning; a step is one of those that heldby.building takes. The cost
of a stand is how many moments of its turn the functions around it have.
"""

from heapq import heappop, heappush

from heldby.limits import MOMENTS
from heldby.ways import Ways


class Reached:
    """The stands, or other places, that were reached so far, each at its least cost within the limit of a turn."""

    def __init__(self):
        self.costs = {}
        self.paths = {}
        self._queue = []

    def arrive(self, cost, stand, path):
        """Arrives at a stand, if that is not known at so little cost."""
        if cost <= MOMENTS and (stand not in self.costs or cost < self.costs[stand]):
            self.costs[stand] = cost
            self.paths[stand] = path
            heappush(self._queue, (cost, stand))

    def nearest(self):
        """The stand of the least cost that was not told yet, None if there is none."""
        while self._queue:
            cost, stand = heappop(self._queue)
            if cost == self.costs[stand]:
                return stand
        return None


class Routes:
    """The ways of the world to all stands and closures that can be played."""

    def __init__(self, program, stands):
        self._ways = Ways(program)
        self._stands = stands
        self._reached = Reached()
        # The paths to the gives of closures.
        self._given = {}
        main = program.functions[0]
        self._reached.arrive(0, stands.starts[(main, ())], (None, ("turn", main, ())))
        stand = self._reached.nearest()
        while stand is not None:
            self._give(stand)
            self._follow(self._reached, stand, stands.calls[stand])
            stand = self._reached.nearest()

    def _follow(self, reached, stand, calls):
        """Arrives at the stands to which some of the calls of a stand lead."""
        for points, further, _ in calls:
            longer, point = self._nearest_call(stand, points)
            path = (reached.paths[stand], ("call", self._function_of(stand), point))
            reached.arrive(reached.costs[stand] + longer, further, path)

    def _give(self, stand):
        for points, closure in self._stands.groups.gives_from(self._stands.rows[stand]):
            length, point = self._least_length(stand, points)
            # The turn must come to its end before the closure is called in a turn of its own.
            if closure not in self._given and self._reached.costs[stand] + length <= MOMENTS:
                path = (self._reached.paths[stand], ("give", self._function_of(stand), point))
                self._given[closure] = path
                self._reached.arrive(0, self._stands.starts[closure], (path, ("turn", closure[0], ())))

    def _function_of(self, stand):
        return self._stands.rows[stand][0]

    def _nearest_call(self, stand, points):
        """The moments that a call takes besides its own ones, and its point, the best one of several."""
        name = self._function_of(stand)
        return min([(self._ways.length_around(name, point), point) for point in points])

    def _least_length(self, stand, points):
        """The moments of a call of the function that comes to one of the points, and the best one of them."""
        name = self._function_of(stand)
        return min([(self._ways.length_at(name, point), point) for point in points])

    def to_closure(self, many):
        """The path to a give of a closure with which so many groups are too much, None if there is none."""
        for closure, path in self._given.items():
            if self._stands.groups.excess_of(closure) == many:
                return path
        return None

    def to_stand(self, many, bounds):
        """The path to a moment at which so many things, the greatest number, are too much in a stack, or None.

        All calls on it leave what is left of the bounds of their stands, so that nothing is lost on the way.
        """
        reached = Reached()
        for stand in list(self._stands.starts.values()):
            if bounds[stand] == many and self._reached.costs.get(stand) == 0:
                reached.arrive(0, stand, self._reached.paths[stand])
        stand = reached.nearest()
        while stand is not None:
            path = self._end(reached, stand, bounds[stand])
            if path is not None:
                return path
            calls = self._stands.calls[stand]
            self._follow(reached, stand, [row for row in calls if row[2] + bounds[row[1]] == bounds[stand]])
            stand = reached.nearest()
        return None

    def _end(self, reached, stand, many):
        """The path to a point of the stand at which so many groups are too much, None if there is none."""
        rows = [self._least_length(stand, points) for number, points in self._excesses(stand) if number == many]
        if not rows or reached.costs[stand] + min(rows)[0] > MOMENTS:
            return None
        return (reached.paths[stand], ("at", self._function_of(stand), min(rows)[1]))

    def _excesses(self, stand):
        return self._stands.groups.excesses_at(self._stands.rows[stand])

    def around(self, knots, growing):
        """Two paths to the entry of one stand, the one by the other and by a call that counts, or None.

        knots has the knot of each stand, growing those knots within which a call counts.
        """
        costs = self._reached.costs
        for _, stand in sorted([(costs[stand], stand) for stand in costs if knots[stand] in growing]):
            back = self._path_around(stand, knots)
            if back is not None:
                end = ("at", self._function_of(stand), ())
                return (self._reached.paths[stand], end), (back, end)
        return None

    def _path_around(self, stand, knots):
        """The path to a stand and by a call that counts to it again, None if its turn would be too long.

        Places are tuples of a stand and whether a call on the way to it counts.
        """
        reached = Reached()
        reached.arrive(self._reached.costs[stand], (stand, False), self._reached.paths[stand])
        place = reached.nearest()
        while place is not None and place != (stand, True):
            near, is_counted = place
            for points, further, count in self._stands.calls[near]:
                if knots[further] == knots[stand]:
                    longer, point = self._nearest_call(near, points)
                    path = (reached.paths[place], ("call", self._function_of(near), point))
                    reached.arrive(reached.costs[place] + longer, (further, is_counted or count > 0), path)
            place = reached.nearest()
        if place is None or reached.costs[place] + self._least_length(stand, [()])[0] > MOMENTS:
            return None
        return reached.paths[place]


def steps_of_path(path):
    """The steps of a path from its beginning on."""
    steps = []
    while path is not None:
        path, step = path
        steps.append(step)
    return steps[::-1]
