"""What becomes of single groups by calls and gives, and at which points they are too much.

A group is a tuple (names, by_one, by_other): the names hold one thing, which a frame farther down keeps or not. Groups
have numbers here, as equal ones come again and again.
"""

from heldby.leads import meet


class Numbering:
    """The numbers of groups, from 0 on, in the order in which they come."""

    def __init__(self):
        self._numbers = {}
        self._rows = []

    def number_of(self, group):
        """The number of a group, a new one if it is new."""
        if group not in self._numbers:
            self._numbers[group] = len(self._rows)
            self._rows.append(group)
        return self._numbers[group]

    def group_of(self, number):
        """The group with this number."""
        return self._rows[number]


class Passage:
    """A call or a give of a function, or several ones that lead alike, at the points of a list."""

    def __init__(self, numbering, callee, passes, pair):
        """pair has what the frame keeps by one and by other while the callee runs, None for a give."""
        self.callee = callee
        self.points = []
        self._numbering = numbering
        self._passes = passes
        self._pair = pair
        self._known = {}

    def led(self, numbers):
        """The numbers of the groups to which groups lead, and how many of those that are gone are too much."""
        further, count = [], 0
        for number in numbers:
            if number not in self._known:
                self._known[number] = self._led_group(self._numbering.group_of(number))
            left, is_lost = self._known[number]
            if left is not None:
                further.append(left)
            elif is_lost:
                count += 1
        return further, count

    def _led_group(self, group):
        """The number of the group to which one leads, None if no name is left, and whether it is too much then."""
        names, by_one, by_other = group
        gets = tuple(sorted([get for thing in names for get in self._passes.get(thing, ())]))
        if self._pair is None:
            return self._number_if(gets, False, False), False
        kept_one, kept_other = by_one or meet(names, self._pair[0]), by_other or meet(names, self._pair[1])
        return self._number_if(gets, kept_one, kept_other), kept_one and not kept_other

    def _number_if(self, names, by_one, by_other):
        return self._numbering.number_of((names, by_one, by_other)) if names else None


class Stops:
    """The points of a function, by what its frames keep there by one and by other."""

    def __init__(self, numbering, table):
        """table is a dict from what is kept to lists of points."""
        self._numbering = numbering
        self._pairs = list(table)
        self._points = list(table.values())
        self._known = {}

    def excesses(self, numbers):
        """A list of (number, points): how many of the groups are too much at these points."""
        counts = [0] * len(self._pairs)
        for number in numbers:
            if number not in self._known:
                group = self._numbering.group_of(number)
                self._known[number] = [at for at, pair in enumerate(self._pairs) if is_too_much(group, pair)]
            for at in self._known[number]:
                counts[at] += 1
        return list(zip(counts, self._points))


def is_too_much(group, pair):
    """Whether one keeps the thing of a group and other does not, in the whole stack or by what is kept on top."""
    names, by_one, by_other = group
    return (by_one or meet(names, pair[0])) and not (by_other or meet(names, pair[1]))
