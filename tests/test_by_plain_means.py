"""Many small programs, looked at by plain means: by playing all courses, and by following paths."""

import unittest

from heldby.courses import shortest_courses
from heldby.programs import Program
from heldby.statements import Add, Call, Either, Give, Show
from tests.makers import Maker
from tests.samples import refusal


def flat(function):
    return [function] + [found for inner in function.functions for found in flat(inner)]


def statements(body):
    for statement in body:
        yield statement
        if isinstance(statement, Either):
            yield from statements(statement.one)
            yield from statements(statement.other)


def played(main, name, most):
    """The fewest moments in which a call of the function ends, by playing every course; None if there are more."""
    table = {function.name: function for function in flat(main)}
    # What is still to be done, as a stack: lists of statements, and moments.
    courses = [[("list", table[name].body), "moment"]]
    for moments in range(1, most + 1):
        after, seen = [], set()
        for course in courses:
            assert course[-1] == "moment"
            for ahead in until_moment(table, course[:-1]):
                if not ahead:
                    return moments
                key = tuple(part if part == "moment" else tuple(id(row) for row in part[1]) for part in ahead)
                if key not in seen and len(ahead) < most:
                    seen.add(key)
                    after.append(ahead)
        courses = after
    return None


def until_moment(table, course):
    """What the course may become, up to the next moment: [] if there is none any more."""
    course = list(course)
    while course and course[-1] != "moment":
        _, rows = course.pop()
        if not rows:
            continue
        first, rest = rows[0], rows[1:]
        if rest:
            course.append(("list", rest))
        course.append("moment")
        if isinstance(first, Call):
            course += [("list", table[first.name].body), "moment"]
        if isinstance(first, Either):
            return [[*course, ("list", part), "moment"] for part in (first.one, first.other)]
    return [course]


def own(function):
    return [*function.parameters, *function.things, *function.numbers]


def shown(function):
    found = []
    for statement in statements(function.body):
        if isinstance(statement, (Show, Add)):
            found.append(statement.name)
        if isinstance(statement, Call):
            found += statement.things
    return found


def reached(table, name, blocked=()):
    """The functions to which calls and gives lead from one, itself included, not by way of the blocked ones."""
    if name in blocked:
        return set()
    found, fresh = {name}, [name]
    while fresh:
        for statement in statements(table[fresh.pop()].body):
            if isinstance(statement, (Call, Give)) and statement.name not in found and statement.name not in blocked:
                found.add(statement.name)
                fresh.append(statement.name)
    return found


class PlainMeansTest(unittest.TestCase):
    def programs(self, many):
        return [Maker(seed).main() for seed in range(many)]

    def test_courses(self):
        ends, endless = 0, 0
        for main in self.programs(400):
            courses = shortest_courses(main)
            for function in flat(main):
                course = courses[function.name]
                want = played(main, function.name, 25)
                self.assertEqual(course if course is not None and course <= 25 else None, want)
                ends += want is not None
                endless += course is None
        self.assertGreater(ends, 500)
        self.assertGreater(endless, 100)

    def test_refusals(self):
        kinds = {}
        for main in self.programs(400):
            got = refusal(main)
            courses = shortest_courses(main)
            endless = [function.name for function in flat(main) if courses[function.name] is None]
            many = sum(1 for function in flat(main) for _ in statements(function.body))
            if endless:
                self.assertEqual(got, ("Endless", endless[0]))
            elif len(flat(main)) > 10:
                self.assertEqual(got, ("TooMany", 10))
            elif many > 60:
                self.assertIn(got, [("TooMany", 12), ("TooMany", 60)])
            kinds[got and got[0]] = kinds.get(got and got[0], 0) + 1
        self.assertGreater(kinds[None], 100)

    def test_queries(self):
        looked = 0
        for main in self.programs(600):
            if refusal(main):
                continue
            looked += 1
            program = Program(main)
            table = {function.name: function for function in flat(main)}
            order = [variable for function in flat(main) for variable in own(function)]
            used = reached(table, main.name)
            self.assertEqual(program.functions, tuple(table))
            self.assertEqual(program.used, tuple(name for name in table if name in used))
            needs = {}
            for name, function in table.items():
                self.assertEqual(program.uses(name), tuple(v for v in order if v in shown(function)))
                needs[name] = []
                for other in table.values():
                    # A variable is needed by those from whom a way leads to a use that does not enter its own function.
                    for variable in own(other):
                        ways = reached(table, name, [other.name])
                        if any(variable in shown(table[end]) for end in ways):
                            needs[name].append(variable)
                self.assertEqual(program.needs(name), tuple(v for v in order if v in needs[name]))
            for name, function in table.items():
                captured = tuple(v for v in own(function) if any(v in needs[other] for other in used))
                self.assertEqual(program.captured(name), captured)
        self.assertGreater(looked, 150)
