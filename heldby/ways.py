"""The shortest ways through the bodies of functions, with the choices and the gives on them."""

from heldby.courses import shortest_courses
from heldby.statements import Call, Either, Give

# A way is a tuple (moments, choices, gives): how many moments it has, the choices on it, and how many gives it has.
NOTHING = (0, (), 0)
MOMENT = (1, (), 0)


def _joined(one, other):
    """The way of the one and then of the other."""
    return (one[0] + other[0], one[1] + other[1], one[2] + other[2])


class Ways:
    """The ways of the used functions of a program to and from their points."""

    def __init__(self, program):
        self._courses = _course_ways(program)
        self._befores = {}
        self._afters = {}
        for name in program.used:
            body = program.function(name).body
            befores, afters = {(): MOMENT}, {}
            self._add_befores(befores, body, ())
            self._add_afters(afters, body, (), NOTHING)
            self._befores[name] = befores
            self._afters[name] = afters

    def before(self, name, point):
        """The way from the entry of a function to a point, with the moments of both."""
        return self._befores[name][point]

    def after(self, name, point):
        """The way from a point to the end, without the moment of the point."""
        return self._afters[name][point]

    def ahead(self, name, point):
        """The way from the entry to the point ahead of the statement behind which the point is."""
        beginning, index = point[:-1], point[-1]
        return self.before(name, beginning if index == 0 else (*beginning, index - 1))

    def length_at(self, name, point):
        """How many moments a call of the function has that comes to the point."""
        return self.before(name, point)[0] + self.after(name, point)[0]

    def length_around(self, name, point):
        """How many moments it has besides those of the call behind which the point is."""
        return self.ahead(name, point)[0] + 1 + self.after(name, point)[0]

    def _add_befores(self, befores, statements, beginning):
        way = befores[beginning]
        for index, statement in enumerate(statements):
            point = (*beginning, index)
            if isinstance(statement, Either):
                for choice, part in enumerate((statement.one, statement.other)):
                    inside = (*point, choice)
                    befores[inside] = _joined(way, (1, (choice,), 0))
                    self._add_befores(befores, part, inside)
            way = _joined(way, _statement_way(statement, self._courses))
            befores[point] = way

    def _add_afters(self, afters, statements, beginning, way):
        for index, statement in reversed(list(enumerate(statements))):
            point = (*beginning, index)
            afters[point] = way
            if isinstance(statement, Either):
                for choice, part in enumerate((statement.one, statement.other)):
                    self._add_afters(afters, part, (*point, choice), _joined(MOMENT, way))
            way = _joined(_statement_way(statement, self._courses), way)
        afters[beginning] = way


def _course_ways(program):
    """A dict from the names of all functions to the ways of their shortest calls."""
    courses = shortest_courses(program.main)
    ways = {}
    # On a shortest way only functions are called whose calls are shorter, so their ways are known by then.
    for _, name in sorted([(courses[name], name) for name in program.functions]):
        ways[name] = _joined(MOMENT, _list_way(program.function(name).body, ways))
    return ways


def _list_way(statements, courses):
    """The shortest way through a list, None if it has a call whose way is not known."""
    way = NOTHING
    for statement in statements:
        further = _statement_way(statement, courses)
        if further is None:
            return None
        way = _joined(way, further)
    return way


def _statement_way(statement, courses):
    """The shortest way through a statement, None if its way is not known."""
    if isinstance(statement, Call):
        return _joined(courses[statement.name], MOMENT) if statement.name in courses else None
    if isinstance(statement, Give):
        return (1, (), 1)
    if isinstance(statement, Either):
        return _choice_way(_list_way(statement.one, courses), _list_way(statement.other, courses))
    return MOMENT


def _choice_way(one, other):
    """The shorter way of the lists of an Either, with its choice and the moment behind it."""
    if one is None and other is None:
        return None
    if other is None or (one is not None and one[0] <= other[0]):
        return _joined(_joined((1, (0,), 0), one), MOMENT)
    return _joined(_joined((1, (1,), 0), other), MOMENT)
