"""The main promise over the whole program, and the conventions that hold for every call of it."""

import copy
import random
import time
import unittest

from heldby.changes import Pruning, Renaming
from heldby.comparing import compared, excesses, is_compared, keeps_no_more
from heldby.desks import Desk, answers
from heldby.growth import grown, growth, is_grown
from heldby.keepers import Plain, Told, points
from heldby.layouts import Layout
from heldby.limits import FAMILY
from heldby.prices import (
    cheapest, coarsest, entry_price, family, family_size, least_price, mends, paid, price, statement_prices, way_of,
)
from heldby.programs import Program
from heldby.reading import is_program_text, read_keeper, read_layout, read_program, read_world
from heldby.runs import Run
from heldby.sessions import Session, StrictSession
from heldby.texts import keeper_table, line_of, point_at, write_keeper, write_layout, write_program, write_world
from heldby.worlds import count_moments, kept_at, shows_of
from tests import plain_growth, plain_tables
from tests.makers import changed, made_keeper, made_layout, made_world, programs
from tests.plain_worlds import Played
from tests.test_carrying import KINDS, tells
from tests.test_conventions import spoil


class PromiseTest(unittest.TestCase):
    def test_comparing_and_growth(self):
        found = {}
        for at, program in enumerate(programs(220)):
            chance = random.Random(at)
            one = made_keeper(chance, program)
            other = chance.choice([changed(chance, one), made_keeper(chance, program)])
            told = keeps_no_more(one, other)
            value, answer, many = compared(one, other), grown(one, other), growth(one, other)
            self.assertTrue(is_compared(one, other, value) and is_grown(one, other, answer))
            self.assertEqual((value[0] == "table", many == 0, excesses(one, other) == []), (told,) * 3)
            if told:
                # A simple check accepts the table.
                self.assertEqual(plain_tables.faults(one, other, value[1:]), set())
            else:
                # Whoever runs the world sees the thing.
                _, world, moment, thing = value
                run = Played(program, world)
                moment = -1 if moment is None else moment
                self.assertIn(thing, run.kept_at(one, moment))
                self.assertNotIn(thing, run.kept_at(other, moment))
            self.assertEqual(plain_growth.faults(one, other, answer), [])
            found[many] = found.get(many, 0) + 1
        self.assertGreater(len(found), 3)

    def test_runs_see_what_worlds_tell(self):
        for at, program in enumerate(programs(120)):
            chance = random.Random(at)
            one, other = made_keeper(chance, program), made_keeper(chance, program)
            value = compared(one, other)
            if value[0] == "world" and value[2] is None:
                run = Run.of(program, value[1])
                self.assertIn(value[3], run.kept(one))
                self.assertNotIn(value[3], run.kept(other))

    def test_all_layouts_show_the_same_and_keep_no_less_than_plain(self):
        for at, program in enumerate(programs(80)):
            chance = random.Random(at)
            world = made_world(chance, program, 3)
            layouts = [made_layout(chance, program) for _ in range(2)] + [Layout.chained(program), Layout.flat(program)]
            for layout in layouts:
                self.assertTrue(keeps_no_more(Plain(program), layout))
                self.assertEqual(growth(Plain(program), layout), 0)
                if world:
                    self.assertEqual(shows_of(layout.program, world), shows_of(program, world))
                    for moment in (0, None):
                        self.assertLessEqual(set(kept_at(Plain(program), world, moment)),
                            set(kept_at(layout, world, moment)))
            self.assertEqual(Layout.flat(program), Plain(program))

    def test_the_cheapest_layout(self):
        for at, program in enumerate([program for program in programs(120) if family_size(program) <= 300]):
            chance = random.Random(at)
            weights = {name: chance.randint(0, 5) for name in program.used if chance.random() < 0.5}
            found, plain = cheapest(program, weights), Plain(program)
            self.assertTrue(keeps_no_more(found, plain))
            rows = [(price(layout, weights), keeps_no_more(layout, plain)) for layout in family(program)]
            self.assertEqual(price(found, weights), min(cost for cost, is_safe in rows if is_safe))
            self.assertEqual(least_price(program, weights, most=None), min(cost for cost, _ in rows))
            session = Session(program)
            session.weigh(**weights)
            self.assertEqual(session.improve(), price(found, weights))
            self.assertEqual(Desk(session)("growth"), "0")
            guarded = StrictSession(program, 0, price(Layout.flat(program)))
            guarded.improve()
            self.assertLessEqual(guarded.price, price(Layout.flat(program)))
            for layout in coarsest(program):
                self.assertTrue(keeps_no_more(layout, plain))

    def test_texts_of_everything(self):
        """What is read again keeps, costs and grows as what was written."""
        for at, program in enumerate(programs(80)):
            chance = random.Random(at)
            again = read_program(write_program(program))
            layout, keeper = made_layout(chance, program), made_keeper(chance, program)
            read, told = read_layout(again, write_layout(layout)), read_keeper(again, write_keeper(keeper))
            self.assertEqual((read, told), (layout, keeper))
            self.assertEqual(price(read), price(layout))
            self.assertEqual(growth(read, told), growth(layout, keeper))
            self.assertEqual(compared(read, told), compared(layout, keeper))
            self.assertEqual(mends(read), mends(layout))
            world = made_world(chance, program, 2)
            if world:
                self.assertEqual(paid(read, read_world(write_world(world))), paid(layout, world))

    def test_changes_texts_and_sessions(self):
        for at, program in enumerate(programs(60)):
            chance = random.Random(at)
            session = Session(program)
            session.adopt(made_layout(chance, program))
            for kind in KINDS:
                found = kind(chance, program)
                for change in found[:1]:
                    session.apply(change)
                    self.assertEqual(read_program(Desk(session)("program")), change.result)
                    read = read_layout(change.result, Desk(session)("layout"))
                    self.assertEqual(read.choice(), session.layout.choice())
                    self.assertEqual(read_keeper(change.result, Desk(session)("keeper")), session.layout)
                    session.undo()


class Calls:
    """All calls of the later parts, by names; made again for each seed."""

    def __init__(self, seed, program):
        chance = random.Random(seed)
        self.program = program
        self.layout, self.one = made_layout(chance, program), made_keeper(chance, program)
        self.other = changed(chance, self.one)
        self.world = made_world(chance, program, 3)
        self.weights = {name: chance.randint(0, 9) for name in program.used[::2]}
        self.names = {name: f"{name[:6]}zz" for name in program.functions[:2]}
        self.text = write_program(program)
        self.answer = grown(self.one, self.other)

    def given(self):
        """What the calls are given, as values that can be compared."""
        return (self.program.main, [tells(keeper) for keeper in (self.layout, self.one, self.other)],
            self.layout.choice(),
            self.world, self.weights, self.names, self.text, self.answer)

    def calls(self):
        program, layout = self.program, self.layout
        rows = {
            "growth": lambda: growth(self.one, self.other), "grown": lambda: grown(self.one, self.other),
            "is_grown": lambda: is_grown(self.one, self.other, self.answer),
                "price": lambda: price(layout, self.weights),
            "mends": lambda: mends(layout), "size": lambda: family_size(program),
            "renaming": lambda: write_program(Renaming(program, self.names).result),
            "carried": lambda: tells(Renaming(program, self.names)(self.one)),
            "pruned": lambda: tells(Pruning(program)(self.one)), "program": lambda: write_program(program),
            "layout": lambda: write_layout(layout), "keeper": lambda: write_keeper(self.one),
            "world": lambda: write_world(self.world), "table": lambda: keeper_table(layout, self.one),
            "read": lambda: read_program(self.text).functions, "is text": lambda: is_program_text(self.text),
            "read world": lambda: read_world(write_world(self.world)), "session": self.session, "desk": self.desk,
            "points": lambda: [point_at(program, at) for at in range(self.text.count("\n") + 1)],
            "lines": lambda: [line_of(program, name, point) for name in program.functions for point in points(program,
                name)],
        }
        for name in program.used:
            rows[f"statements {name}"] = lambda name=name: statement_prices(layout, name)
            rows[f"entry {name}"] = lambda name=name: entry_price(layout, name)
            rows[f"ways {name}"] = lambda name=name: [way_of(layout, name, variable) for variable in program.uses(name)]
        if self.world:
            rows["paid"] = lambda: paid(layout, self.world)
            rows["run"] = lambda: [Run.of(program, self.world).world, Run.of(program, self.world).kept(self.one)]
        if family_size(program) < 100:
            rows["family"] = lambda: [made.choice() for made in family(program)]
            rows["cheapest"] = lambda: cheapest(program, self.weights, most=1).choice()
            rows["coarsest"] = lambda: [made.choice() for made in coarsest(program)]
        return rows

    def session(self):
        session = Session(self.program)
        session.weigh(**self.weights)
        session.adopt(self.layout)
        return [[layout.choice(), weights] for _, layout, weights in session.works()] + [session.weights, session.price]

    def desk(self):
        return answers(Session(self.program), ["program", "weigh " + self.program.functions[0] + " 3", "price", "undo",
            "table"])


class ConventionsTest(unittest.TestCase):
    def cases(self):
        return [Calls(at, program) for at, program in enumerate(programs(25))]

    def test_equal_calls(self):
        for at, program in enumerate(programs(25)):
            one, other = Calls(at, program), Calls(at, Program(copy.deepcopy(program.main)))
            first, second = one.calls(), other.calls()
            for word in first:
                result = first[word]()
                self.assertEqual(result, first[word](), word)
                self.assertEqual(result, second[word](), word)

    def test_returned_values_are_new(self):
        for case in self.cases():
            rows = case.calls()
            before = {word: copy.deepcopy(rows[word]()) for word in rows}
            for word in rows:
                spoil(rows[word]())
            for word in rows:
                self.assertEqual(rows[word](), before[word], word)

    def test_arguments_stay(self):
        for case in self.cases():
            before = copy.deepcopy(case.given())
            for call in case.calls().values():
                call()
            self.assertEqual(case.given(), before)


class TimeTest(unittest.TestCase):
    def great(self):
        """A program near most limits: of functions, of those in one another, of things in a chain, of statements."""
        text = ["function main a b", "  things c", "  numbers n m"]
        for level, name in enumerate("fghk"):
            ahead = "  " * (level + 1)
            text += [f"{ahead}function {name} {name}x", f"{ahead}  things {name}y", f"{ahead}  numbers {name}n"]
        for level, name in reversed(list(enumerate("fghk"))):
            ahead = "  " * (level + 2)
            inner = "fghk"[level + 1:level + 2]
            rows = ["show a", "show b", f"add {name}n 3", "either", f"  show {name}x", "or", f"  call f {name}y", "end",
                "show c", "add n 7", f"show {name}y", "show m"]
            if inner:
                rows += [f"give {inner}", f"call {inner} {name}y"]
            text += [ahead + row for row in rows]
        text += [f"  function u{letter}\n    show a" for letter in "abcde"]
        text += ["  call f a", "  give f", "  show b", "  give ua"]
        return read_program("\n".join(text))

    def test_great_programs(self):
        program = self.great()
        self.assertEqual((len(program), len(program.chain("k"))), (10, 5))
        began = time.perf_counter()
        flat, chained, plain = Layout.flat(program), Layout.chained(program), Plain(program)
        for one, other in ((chained, plain), (plain, chained), (flat, plain), (chained, flat)):
            self.assertTrue(is_compared(one, other, compared(one, other)))
        self.assertGreater(family_size(program), FAMILY)
        self.assertTrue(price(chained) > 0 and isinstance(mends(chained), list))
        self.assertEqual(read_program(write_program(program)), program)
        session = Session(program)
        for _ in range(20):
            session.adopt(Layout.chained(session.program))
            session.apply(Renaming(session.program, {"a": "b", "b": "a"}))
        session.undo(40)
        self.assertEqual(Desk(session)("table"), keeper_table(flat, plain))
        self.assertLess(time.perf_counter() - began, 20)

    def test_many_steps(self):
        session = Session(read_program("function main a\n  function f\n    show a\n  give f"))
        began = time.perf_counter()
        for at in range(2000):
            session.weigh(f=at)
        session.undo(2000)
        session.redo(1999)
        self.assertEqual((session.weights, session.undoable, session.redoable), ({"f": 1998}, 1999, 1))
        self.assertEqual(len(list(session.copied().works())), 2000)
        desk = Desk(session)
        for _ in range(500):
            desk("try weigh f 0")
        self.assertLess(time.perf_counter() - began, 20)

    def test_long_worlds(self):
        program = read_program(
            "function main a\n  function f x\n    things y\n    either\n      call f y\n    or\n    end\n"
            "  call f a")
        world = [(0, (5,), (0,) * 24000 + (1,), (), ())]
        began = time.perf_counter()
        many = count_moments(program, world)
        self.assertGreater(many, 90000)
        self.assertEqual(paid(Layout(program), world), 0)
        self.assertEqual(read_world(write_world(world)), world)
        late = Told(program, {}, {("f", (0, 0, 0)): ["x"]})
        self.assertEqual(len(kept_at(late, world, many // 2)), 24000)
        self.assertLess(time.perf_counter() - began, 20)


if __name__ == "__main__":
    unittest.main()
