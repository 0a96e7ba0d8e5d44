"""Whether the functions of a program can end, and how soon."""

from heldby.errors import Endless, TooLong
from heldby.limits import COURSE
from heldby.statements import Call, Either
from heldby.trees import functions_by_bodies


def shortest_courses(main):
    """A dict from the names of all functions to the numbered moments of their shortest calls, None if endless."""
    # Inner functions come first, as most calls are calls of these.
    functions = functions_by_bodies(main)
    courses = {function.name: None for function in functions}
    changed = True
    # From no known ends on, each round finds ends, or shorter ones, through calls nested once more.
    while changed:
        changed = False
        for function in functions:
            known = courses[function.name]
            way = _shortest_way(function.body, courses)
            if way is not None and (known is None or way + 1 < known):
                courses[function.name] = way + 1
                changed = True
    return courses


def _shortest_way(statements, courses):
    """The moments from the beginning of a list, which is not counted, to its end; None if no way is known."""
    total = 0
    for statement in statements:
        inside = 0
        if isinstance(statement, Call):
            inside = courses[statement.name]
        if isinstance(statement, Either):
            inside = _lesser(_shortest_way(statement.one, courses), _shortest_way(statement.other, courses))
        if inside is None:
            return None
        if isinstance(statement, Either):
            # The choice is a moment, too.
            inside += 1
        total += inside + 1
    return total


def _lesser(one, other):
    """The lesser of two integers, of which None is the greatest one."""
    if one is None:
        return other
    if other is None:
        return one
    return min(one, other)


def check_ends(courses, names):
    """Raises Endless for the first one of the functions that cannot end."""
    for name in names:
        if courses[name] is None:
            raise Endless(name)


def check_courses(courses):
    """Raises TooLong if the shortest call of a function has too many moments."""
    for course in list(courses.values()):
        if course > COURSE:
            raise TooLong(COURSE)
