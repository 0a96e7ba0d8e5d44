"""How many things may be kept too much from each stand on."""

from heldby.stands import knots


class Bounds:
    """The bounds of all stands; `many` is the growth, None if there is no greatest number.

    `knots` has the knot of each stand, `growing` those knots within which a call counts, so that it can be done again.
    """

    def __init__(self, stands):
        self._stands = stands
        self.knots = knots(stands.calls)
        self.growing = self._growing_knots()
        self.many = None
        self.bounds = []
        if not self.growing:
            self.bounds = self._least_bounds()
            starts = [self.bounds[number] for number in list(stands.starts.values())]
            self.many = max(starts + [stands.groups.excess_of(closure) for closure in stands.starts])

    def _growing_knots(self):
        found = {}
        for stand, rows in enumerate(self._stands.calls):
            for _, further, count in rows:
                if count > 0 and self.knots[stand] == self.knots[further]:
                    found[self.knots[stand]] = True
        return found

    def _least_bounds(self):
        """All stands of a knot have one bound, as none of the calls within it counts."""
        stands = self._stands
        members = [[] for _ in self.knots]
        for stand, knot in enumerate(self.knots):
            members[knot].append(stand)
        bounds = {}
        # The calls of a knot lead to greater ones, so these come first.
        for knot in reversed(members):
            least = 0
            for stand in knot:
                least = max([least] + [number for number, _ in stands.groups.excesses_at(stands.rows[stand])])
                for _, further, count in stands.calls[stand]:
                    if further in bounds:
                        least = max(least, count + bounds[further])
            for stand in knot:
                bounds[stand] = least
        return [bounds[stand] for stand in range(len(self.knots))]
