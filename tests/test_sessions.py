import copy
import random
import types
import unittest
from unittest import mock

from heldby.changes import Grafting, Lifting, Pruning, Renaming, Sinking
from heldby.errors import (
    InTrial, InvalidNumber, Leaks, NothingToRedo, NothingToUndo, OtherProgram, TooDear, TooMany, UnknownName,
)
from heldby.growth import grown, growth
from heldby.keepers import Plain
from heldby.layouts import Layout
from heldby.prices import cheapest, family_size, price
from heldby.programs import Program
from heldby.reading import read_program
from heldby.sessions import BoundSession, CappedSession, Session, StrictSession, Trial
from heldby.statements import Function, Give, Show
from tests import turners
from tests.makers import made_layout, programs
from tests.samples import any_values
from tests.test_carrying import KINDS
from tests.test_changes import nest
from tests.test_families import flat_program
from tests.test_grown import pair


def work(session):
    """The program, the choice of the layout and the weights of a session."""
    return session.program, session.layout.choice(), session.weights


def state(session):
    """All that a session tells of its steps, but what can be redone."""
    works = [(program, layout.choice(), weights) for program, layout, weights in session.works()]
    return work(session), session.price, session.undoable, session.redoable, session.depth, works


def redone(session):
    """The works to which redo leads, told by a copy."""
    copied, found = session.copied(), []
    while copied.redoable:
        copied.redo()
        found.append(work(copied))
    return found


# g gets by a parameter what it could have in its record; the flat layout costs 2, and 4 without the parameter.
SINKING = "function main a\n  function g q\n    show q\n  function h\n    call g a\n  call h"


class Case(unittest.TestCase):
    def refused(self, session, kind, fields, call):
        """A call that raises an error, behind which all is as it was."""
        before = state(session), redone(session)
        with self.assertRaises(kind) as caught:
            call()
        self.assertIs(type(caught.exception), kind)
        self.assertEqual(list(vars(caught.exception)), list(fields))
        for name, value in fields.items():
            self.assertTrue(vars(caught.exception)[name] is value or vars(caught.exception)[name] == value)
        self.assertEqual((state(session), redone(session)), before)


class BeginningTest(Case):
    def test_work(self):
        program = nest()
        session = Session(program)
        self.assertIs(session.program, program)
        self.assertIsInstance(session.layout, Layout)
        self.assertEqual(session.layout.choice(), Layout.flat(program).choice())
        self.assertEqual(session.weights, {})
        self.assertEqual(session.price, price(Layout.flat(program)))
        self.assertEqual((session.undoable, session.redoable, session.depth), (0, 0, 0))
        self.assertEqual(work(Session(program=program)), work(session))

    def test_properties(self):
        session = StrictSession(nest(), 3, 1000)
        for name in ("program", "layout", "weights", "price", "undoable", "redoable", "depth"):
            self.assertIsInstance(vars(Session)[name], property)
            with self.assertRaises(AttributeError):
                setattr(session, name, 0)
        for made, names in ((BoundSession, ["most"]), (CappedSession, ["cap"]), (StrictSession, ["most", "cap"])):
            for name in names:
                self.assertIsInstance(vars(made)[name], property)
                with self.assertRaises(AttributeError):
                    setattr(session, name, 0)
        for name in ("adopt", "apply", "weigh", "improve", "undo", "redo", "trial", "attempt", "works", "copied",
            "__eq__"):
            self.assertIn(name, vars(Session))
        self.assertIsInstance(vars(Trial)["is_kept"], property)
        for name in ("keep", "__enter__", "__exit__"):
            self.assertIn(name, vars(Trial))

    def test_weights_are_a_new_dict(self):
        session = Session(nest())
        session.weigh(f=2)
        session.weights["g"] = 5
        session.weights.clear()
        self.assertEqual(session.weights, {"f": 2})


class StepsTest(Case):
    def step(self, session, call, want):
        """A call that is a step, and returns what it is to return."""
        before = state(session)
        self.assertEqual(call(), want)
        self.assertEqual(session.undoable, before[2] + 1)
        self.assertEqual(session.redoable, 0)
        self.assertEqual([(p, layout.choice(), weights) for p, layout, weights in session.works()],
            [*before[5], work(session)])

    def test_adopt(self):
        session = Session(nest())
        layout = Layout(nest(), bundles=[["a", "n"]], linked=["g"])
        self.step(session, lambda: session.adopt(layout), None)
        self.assertEqual(session.layout.choice(), layout.choice())
        self.step(session, lambda: session.adopt(layout=layout), None)
        self.step(session, lambda: session.adopt(session.layout), None)
        for other in (Layout(pair()), Layout(Renaming(nest(), {"a": "q"}).result)):
            self.refused(session, OtherProgram, {}, lambda: session.adopt(other))

    def test_weigh(self):
        session = Session(nest())
        self.step(session, lambda: session.weigh(g=3, f=0), None)
        self.assertEqual(list(session.weights.items()), [("f", 0), ("g", 3)])
        self.assertEqual(session.price, price(session.layout, {"f": 0, "g": 3}))
        self.step(session, lambda: session.weigh(), None)
        self.step(session, lambda: session.weigh(main=1, f=None, e=10 ** 6), None)
        self.assertEqual(list(session.weights.items()), [("e", 10 ** 6), ("g", 3), ("main", 1)])
        self.step(session, lambda: session.weigh(f=None), None)
        self.step(session, lambda: session.weigh(g=None, e=None, main=None), None)
        self.assertEqual(session.weights, {})
        self.assertEqual(session.price, price(session.layout))

    def test_wrong_weights(self):
        session = Session(nest())
        session.weigh(f=2)
        for value in [*any_values(), -1, 10 ** 6 + 1, "1"]:
            if value is None or isinstance(value, int) and not isinstance(value, bool) and 0 <= value <= 10 ** 6:
                continue
            self.refused(session, InvalidNumber, {"value": value}, lambda: session.weigh(f=value))
            self.refused(session, InvalidNumber, {"value": value}, lambda: session.weigh(main=-5, g=2, f=value))
            self.refused(session, UnknownName, {"value": "u"}, lambda: session.weigh(f=value, v=value, u=value))
        for name in ("u", "v", "a", "nobody", "", "not a name", "F"):
            self.refused(session, UnknownName, {"value": name}, lambda: session.weigh(**{name: None, "f": 1}))
        self.refused(session, UnknownName, {"value": "Z"}, lambda: session.weigh(**{"zz": None, "Z": None, "f": 1}))
        program = Program(Function("main", functions=[Function("self"), Function("weights"), Function("name")]))
        used = Program(Function("main", functions=program.main.functions, body=read_program(
            "function main\n  function self\n  function weights\n  function name\n  give self\n  give weights\n"
            "  give name"
        ).main.body))
        session = Session(used)
        session.weigh(weights=3, name=4)
        self.assertEqual(session.weights, {"name": 4, "weights": 3})

    def test_improve(self):
        for at, program in enumerate([pair(), nest(), *programs(60)]):
            if family_size(program) > 200:
                continue
            session = Session(program)
            session.weigh(**{name: at % 4 for name in program.used[::2]})
            session.adopt(Layout.chained(program))
            for most in (0, 1, None):
                want = cheapest(program, session.weights, most=most)
                self.step(session, lambda: session.improve(most), price(want, session.weights))
                self.assertEqual(session.price, price(want, session.weights))
                self.assertEqual(session.layout.choice(), want.choice())
            want = price(cheapest(program, session.weights), session.weights)
            self.step(session, lambda: session.improve(), want)
            self.step(session, lambda: session.improve(most=0), want)

    def test_wrong_improvements(self):
        session = Session(pair())
        for value in [*any_values(), -1, 101]:
            if value is None or isinstance(value, int) and not isinstance(value, bool) and 0 <= value <= 100:
                continue
            self.refused(session, InvalidNumber, {"value": value}, lambda: session.improve(value))
        session = Session(flat_program(8, 0, 1))
        self.refused(session, TooMany, {"limit": 1500}, lambda: session.improve())
        self.refused(session, InvalidNumber, {"value": -1}, lambda: session.improve(-1))

    def test_apply(self):
        session = Session(nest())
        self.step(session, lambda: session.apply(), None)
        self.assertEqual(work(session), work(Session(nest())))
        one = Renaming(nest(), {"a": "q"})
        self.step(session, lambda: session.apply(one), None)
        self.assertEqual(session.program, one.result)
        two = Pruning(one.result)
        three = Lifting(two.result, "e", "q", "r")
        four = Sinking(three.result, "e", "r")
        five = Grafting(four.result, "f", Function("k"))
        self.step(session, lambda: session.apply(two, three, four, five), None)
        self.assertEqual(session.program, five.result)
        self.assertEqual(session.undoable, 3)

    def test_changes_of_other_programs(self):
        session = Session(nest())
        one, two = Renaming(nest(), {"a": "q"}), Renaming(nest(), {"a": "r"})
        three = Pruning(one.result)
        for changes in ((three,), (one, one), (one, two), (two, three), (one, three, one), (Pruning(pair()),)):
            self.refused(session, OtherProgram, {}, lambda: session.apply(*changes))
        session.apply(one, three)

    def test_more_than_one_kind(self):
        session = Session(nest())
        session.adopt(Layout(nest(), bundles=[["n", "a"]], opened=["e"]))
        session.weigh(e=5)
        self.assertEqual(session.undoable, 2)
        self.assertEqual([len(weights) for _, _, weights in session.works()], [0, 0, 1])


class CarryingTest(Case):
    def test_renaming(self):
        session = Session(nest())
        session.adopt(Layout(nest(), bundles=[["a", "n"]], linked=["g", "e"], opened=["f"]))
        session.weigh(g=3, main=2, e=1)
        session.apply(Renaming(nest(), {"a": "n", "n": "a", "g": "main", "main": "g", "f": "zz"}))
        self.assertEqual(session.layout.choice(), ((("n", "a"),), ("main", "e"), ("zz",)))
        self.assertEqual(list(session.weights.items()), [("e", 1), ("g", 2), ("main", 3)])
        self.assertEqual(session.price, price(session.layout, session.weights))

    def lifting(self):
        """Main captures a, b and c; g uses a and b, h all of them."""
        return read_program("function main a b c\n  function g\n    show a\n    show b\n  function h\n    show c\n"
            "    show b\n  call g\n  give h")

    def test_variables_that_are_not_captured_any_more(self):
        for bundles, want in (([["a", "b"]], ()), ([["a", "b", "c"]], (("b", "c"),)), ([["b", "c"]], (("b", "c"),)),
            ([["a", "c"]], ()), ([], ())):
            session = Session(self.lifting())
            session.adopt(Layout(self.lifting(), bundles=bundles, linked=["g"], opened=["h", "g"]))
            session.weigh(g=7)
            session.apply(Lifting(self.lifting(), "g", "a", "q"))
            self.assertEqual(session.layout.choice(), (want, ("g",), ("g", "h")))
            self.assertEqual(session.weights, {"g": 7})
            self.assertEqual(session.program.captured("main"), ("b", "c"))

    def test_new_variables_are_in_no_bundle(self):
        # y of g is captured by the inner function; so is q in its place, and x of main by g again.
        program = read_program("function main a b\n  function g y z\n    function h\n      show y\n      show z\n"
            "    give h\n    show b\n  call g a b")
        session = Session(program)
        session.adopt(Layout(program, bundles=[["y", "z"]], linked=["h"]))
        change = Sinking(program, "g", "y")
        session.apply(change)
        self.assertEqual(session.layout.choice(), ((), ("h",), ()))
        self.assertEqual(session.program.captured("main"), ("a", "b"))
        session.adopt(Layout(session.program, bundles=[["a", "b"]]))
        session.apply(Lifting(session.program, "g", "a", "q"))
        self.assertEqual(session.program.captured("g"), ("z", "q"))
        self.assertEqual(session.layout.choice(), ((), (), ()))

    def test_prunings_and_graftings(self):
        session = Session(nest())
        choice = ((("a", "n"),), ("g",), ("f", "e"))
        session.adopt(Layout(nest(), bundles=choice[0], linked=choice[1], opened=choice[2]))
        session.weigh(f=3)
        session.apply(Pruning(nest()))
        self.assertEqual((session.layout.choice(), session.weights), (choice, {"f": 3}))
        session.apply(Grafting(session.program, "f", Function("k", ["kk"], body=[Show("kk"), Show("x")])))
        self.assertEqual((session.layout.choice(), session.weights), (choice, {"f": 3}))

    def test_many_changes(self):
        """The choices stay, by the names of the variables and functions."""
        for at, program in enumerate(programs(60)):
            chance = random.Random(at)
            session = Session(program)
            for kind in KINDS:
                for change in kind(chance, program)[:2]:
                    layout = made_layout(chance, program)
                    session.adopt(layout)
                    session.weigh(**{name: 5 for name in program.used if chance.random() < 0.5})
                    before = session.weights
                    session.apply(change)
                    names = {}
                    if isinstance(change, Renaming):
                        carried = change(layout)
                        names = {}
                        self.assertEqual(session.layout.choice(), carried.choice())
                    else:
                        result = change.result
                        captured = {x for f in result.used for x in result.captured(f)}
                        left = [tuple(x for x in bundle if x in captured) for bundle in layout.bundles]
                        self.assertEqual(session.layout.choice(),
                            (tuple(bundle for bundle in left if len(bundle) > 1), layout.linked, layout.opened))
                        self.assertEqual(session.weights, before)
                    self.assertEqual(len(session.weights), len(before) + len(names))
                    session.undo()
                    self.assertEqual((session.layout.choice(), session.weights), (layout.choice(), before))


class UndoingTest(Case):
    def begun(self, made=None):
        session = made or Session(pair())
        for many in range(4):
            session.weigh(f=many)
        return session

    def test_undo_and_redo(self):
        session = self.begun()
        self.assertEqual([weights for _, _, weights in session.works()], [{}, {"f": 0}, {"f": 1}, {"f": 2}, {"f": 3}])
        self.assertIsNone(session.undo())
        self.assertEqual((session.weights, session.undoable, session.redoable), ({"f": 2}, 3, 1))
        session.undo(2)
        self.assertEqual((session.weights, session.undoable, session.redoable), ({"f": 0}, 1, 3))
        self.assertEqual([weights for _, _, weights in session.works()], [{}, {"f": 0}])
        self.assertIsNone(session.redo())
        self.assertEqual((session.weights, session.undoable, session.redoable), ({"f": 1}, 2, 2))
        session.redo(count=2)
        self.assertEqual((session.weights, session.undoable, session.redoable), ({"f": 3}, 4, 0))
        session.undo(count=4)
        self.assertEqual((session.weights, session.undoable, session.redoable), ({}, 0, 4))
        self.assertEqual(redone(session), [(pair(), Layout.flat(pair()).choice(), {"f": many}) for many in range(4)])

    def test_a_new_step_makes_redoing_impossible(self):
        for step in (lambda s: s.weigh(), lambda s: s.adopt(s.layout), lambda s: s.apply(), lambda s: s.improve()):
            session = self.begun()
            session.undo(2)
            step(session)
            self.assertEqual((session.undoable, session.redoable), (3, 0))
            self.refused(session, NothingToRedo, {}, session.redo)

    def test_refused_calls_leave_what_can_be_redone(self):
        session = self.begun()
        session.undo(2)
        for call in (lambda: session.weigh(f=-1), lambda: session.weigh(nobody=1),
            lambda: session.adopt(Layout(nest())),
            lambda: session.apply(Pruning(nest())), lambda: session.improve(-1), lambda: session.undo(9),
            lambda: session.redo(0)):
            with self.assertRaises((ValueError, LookupError)):
                call()
            self.assertEqual((session.undoable, session.redoable, session.weights), (2, 2, {"f": 1}))
        session.redo(2)
        self.assertEqual(session.weights, {"f": 3})

    def test_wrong_counts(self):
        session = self.begun()
        session.undo(2)
        for value in any_values():
            for call in (session.undo, session.redo):
                if isinstance(value, int) and not isinstance(value, bool) and value > 0:
                    if value > 2:
                        kind = NothingToUndo if call == session.undo else NothingToRedo
                        self.refused(session, kind, {}, lambda: call(value))
                    continue
                self.refused(session, InvalidNumber, {"value": value}, lambda: call(value))
        self.refused(session, NothingToUndo, {}, lambda: session.undo(3))
        self.refused(session, NothingToRedo, {}, lambda: session.redo(3))
        fresh = Session(pair())
        self.refused(fresh, NothingToUndo, {}, fresh.undo)
        self.refused(fresh, NothingToRedo, {}, fresh.redo)
        self.refused(fresh, InvalidNumber, {"value": 0}, lambda: fresh.undo(0))

    def test_works(self):
        session = self.begun()
        self.assertIsInstance(session.works(), types.GeneratorType)
        rows = list(session.works())
        self.assertTrue(all(isinstance(row, tuple) and isinstance(row[0], Program) and isinstance(row[1], Layout)
            for row in rows))
        rows[0][2]["x"] = 1
        rows[4][2]["x"] = 1
        self.assertEqual([weights for _, _, weights in session.works()], [{}, {"f": 0}, {"f": 1}, {"f": 2}, {"f": 3}])


class CopiesTest(Case):
    def test_copies(self):
        for made in (lambda: Session(pair()), lambda: BoundSession(pair(), 1), lambda: CappedSession(pair(), 9),
            lambda: StrictSession(pair(), 1, 9)):
            session = made()
            for many in range(3):
                session.weigh(f=many)
            session.undo()
            copied = session.copied()
            self.assertIs(type(copied), type(session))
            self.assertEqual(state(copied), state(session))
            self.assertEqual(redone(copied), redone(session))
            self.assertTrue(copied == session)
            for name in ("most", "cap"):
                if hasattr(session, name):
                    self.assertEqual(getattr(copied, name), getattr(session, name))
            copied.weigh(g=0)
            self.assertEqual((session.weights, session.undoable, session.redoable), ({"f": 1}, 2, 1))
            session.redo()
            self.assertEqual((copied.weights, copied.undoable, copied.redoable), ({"f": 1, "g": 0}, 3, 0))
            copied.undo(2)
            self.assertEqual(copied.weights, {"f": 0})

    def test_copies_keep_guards(self):
        session = StrictSession(pair(), 0, 4)
        copied = session.copied()
        self.refused(copied, TooDear, {"value": 5}, lambda: copied.weigh(f=2))
        both = Layout(pair(), bundles=[["a", "b"]], opened=["f", "g"])
        self.refused(copied, Leaks, {"value": 1}, lambda: copied.adopt(both))

    def test_copies_of_sessions_whose_flat_layout_is_too_dear(self):
        # The guard holds of the work, for its weights, but not of the flat layout of its program without weights.
        program = read_program(SINKING)
        session = CappedSession(program, 2)
        session.weigh(main=0, h=0, g=0)
        session.apply(Sinking(program, "g", "q"))
        self.assertEqual((session.price, price(Layout.flat(session.program))), (0, 4))
        copied = session.copied()
        self.assertIs(type(copied), CappedSession)
        self.assertEqual((state(copied), copied.cap), (state(session), 2))
        self.assertFalse(hasattr(copied, "most"))
        strict = StrictSession(program, 7, 2)
        strict.weigh(main=0, h=0, g=0)
        strict.apply(Sinking(program, "g", "q"))
        self.assertEqual((state(strict.copied()), strict.copied().most), (state(strict), 7))

    def test_equal_sessions(self):
        one, other = Session(pair()), Session(pair())
        self.assertTrue(one == other)
        one.weigh(f=1)
        self.assertFalse(one == other)
        self.assertTrue(one != other)
        other.weigh(f=3)
        other.weigh(f=1)
        self.assertTrue(one == other)
        one.adopt(Layout(pair(), linked=["f"]))
        self.assertFalse(one == other)
        other.adopt(Layout(pair(), opened=["f"]))
        self.assertEqual(one.layout, other.layout)
        self.assertFalse(one == other)
        other.adopt(Layout(pair(), linked=["f", "f"]))
        self.assertTrue(one == other)
        for same in (BoundSession(pair(), 3), CappedSession(pair(), 20), StrictSession(pair(), 2, 20)):
            same.weigh(f=1)
            same.adopt(Layout(pair(), linked=["f"]))
            self.assertTrue(one == same)
            self.assertTrue(same == one)
        self.assertFalse(Session(pair()) == Session(nest()))
        renamed = Session(Renaming(pair(), {"a": "q"}).result)
        self.assertFalse(Session(pair()) == renamed)
        for value in any_values():
            self.assertFalse(one == value)


class PromiseTest(Case):
    """Whatever was done, a session tells what a new one tells that is given the same work."""

    def act(self, chance, session):
        """A call by chance, which may be refused."""
        program = session.program
        kind = chance.randrange(8)
        if kind == 0:
            session.adopt(made_layout(chance, program))
        elif kind == 1:
            found = chance.choice(KINDS)(chance, program)
            if found:
                session.apply(chance.choice(found))
        elif kind == 2:
            session.weigh(**{name: chance.choice([None, 0, 3, -1]) for name in chance.sample(program.functions, 2)})
        elif kind == 3 and family_size(program) < 300:
            session.improve(chance.choice([0, 1, None, 101]))
        elif kind == 4:
            session.undo(chance.randint(1, 3))
        elif kind == 5:
            session.redo(chance.randint(1, 3))
        elif kind == 6:
            with session.trial() as trial:
                for _ in range(chance.randint(0, 3)):
                    self.act(chance, session)
                if chance.random() < 0.5:
                    trial.keep()
        else:
            session.adopt(session.layout)

    def check(self, session):
        fresh = Session(session.program)
        fresh.adopt(session.layout)
        fresh.weigh(**session.weights)
        self.assertTrue(fresh == session)
        self.assertEqual((work(fresh), fresh.price), (work(session), session.price))
        self.assertEqual(fresh.layout, session.layout)
        again = copy.deepcopy(session.program.main)
        other = Session(Program(again))
        other.adopt(Layout(other.program, bundles=session.layout.bundles, linked=session.layout.linked,
            opened=session.layout.opened))
        other.weigh(**session.weights)
        self.assertTrue(other == session)
        if family_size(session.program) < 50:
            copied = session.copied()
            self.assertEqual(copied.improve(1), other.improve(1))
            self.assertTrue(copied == other)

    def test_histories(self):
        for at, program in enumerate([program for program in programs(70) if len(program) > 1]):
            chance = random.Random(at)
            session = Session(program)
            for _ in range(12):
                before = state(session), redone(session)
                try:
                    self.act(chance, session)
                except (ValueError, LookupError, OverflowError, RuntimeError):
                    self.assertEqual((state(session), redone(session)), before)
                self.check(session)

    def test_guards_hold_at_every_time(self):
        for at, program in enumerate([program for program in programs(50) if len(program) > 1]):
            chance = random.Random(at)
            cap = price(Layout.flat(program)) + 2
            session = StrictSession(program, 1, cap)
            for _ in range(12):
                before = state(session), redone(session)
                try:
                    self.act(chance, session)
                except (ValueError, LookupError, OverflowError, RuntimeError):
                    self.assertEqual((state(session), redone(session)), before)
                self.assertLessEqual(session.price, cap)
                self.assertIn(growth(session.layout, Plain(session.program)), (0, 1))
                self.check(session)


class GuardsTest(Case):
    def leaking(self, many):
        """A program with a layout that keeps so many things too long, and this layout."""
        names = "abcdefghijk"[:many + 1]
        program = Program(Function("main", list(names), functions=[Function(f"f{x}", body=[Show(x)]) for x in names],
            body=read_program("function main\n" + "".join(f"  function f{x}\n" for x in names) + "\n".join(
                f"  give f{x}" for x in names)).main.body))
        return program, Layout(program, bundles=[list(names)], opened=program.used[1:])

    def test_growth(self):
        for many in range(0, 6):
            program, layout = self.leaking(many) if many else (pair(), Layout.flat(pair()))
            self.assertEqual(growth(layout, Plain(program)), many)
            for most in range(0, 7):
                session = BoundSession(program, most)
                self.assertEqual(session.most, most)
                if many <= most:
                    session.adopt(layout)
                    self.assertEqual(session.undoable, 1)
                else:
                    self.refused(session, Leaks, {"value": many}, lambda: session.adopt(layout))

    def test_a_growth_without_end(self):
        # Each frame of f keeps y, for the sake of z in the same bundle, while it calls f again.
        text = "function main\n  function f\n    things y z\n    function g\n      show y\n    function h\n" \
            "      show z\n    give g\n    either\n      call f\n    or\n    end\n    give h\n  call f"
        program = read_program(text)
        layout = Layout(program, bundles=[["y", "z"]], opened=["g", "h"])
        self.assertIsNone(growth(layout, Plain(program)))
        for session in (BoundSession(program, 100), StrictSession(program, 0, 0 + price(layout))):
            self.refused(session, Leaks, {"value": None}, lambda: session.adopt(layout))
            session.adopt(layout.unbundled(0))

    def test_price(self):
        program = pair()
        both = Layout(program, bundles=[["a", "b"]])
        for cap in range(4, 11):
            session = CappedSession(program, cap)
            self.assertEqual(session.cap, cap)
            if cap >= 8:
                session.adopt(both)
                self.assertEqual(session.price, 8)
            else:
                self.refused(session, TooDear, {"value": 8}, lambda: session.adopt(both))
        session = CappedSession(program=program, cap=5)
        session.weigh(f=2)
        self.refused(session, TooDear, {"value": 6}, lambda: session.weigh(f=3))
        self.refused(session, TooDear, {"value": 6}, lambda: session.weigh(g=2))
        # Only the work behind the step counts.
        session.weigh(f=0)
        session.weigh(g=2)
        self.assertEqual(session.price, 4)

    def test_constructors(self):
        for value in [*any_values(), 101, -1]:
            if isinstance(value, int) and not isinstance(value, bool) and 0 <= value <= 100:
                continue
            for call in (lambda: BoundSession(pair(), value), lambda: StrictSession(pair(), value, 0),
                lambda: StrictSession(pair(), value, -1), lambda: StrictSession(pair(), value, None)):
                with self.assertRaises(InvalidNumber) as caught:
                    call()
                self.assertIs(caught.exception.value, value)
        for value in [*any_values(), -1]:
            if isinstance(value, int) and not isinstance(value, bool) and value >= 0:
                continue
            for call in (lambda: CappedSession(pair(), value), lambda: StrictSession(pair(), 100, value)):
                with self.assertRaises(InvalidNumber) as caught:
                    call()
                self.assertIs(caught.exception.value, value)
        for cap in range(4):
            for call in (lambda: CappedSession(pair(), cap), lambda: StrictSession(pair(), 0, cap)):
                with self.assertRaises(TooDear) as caught:
                    call()
                self.assertEqual(vars(caught.exception), {"value": 4})
        session = StrictSession(program=pair(), most=100, cap=10 ** 40)
        self.assertEqual((session.most, session.cap), (100, 10 ** 40))
        self.assertEqual(BoundSession(program=pair(), most=0).most, 0)
        self.assertEqual(work(StrictSession(pair(), 0, 4)), work(Session(pair())))

    def test_classes(self):
        for made in (BoundSession, CappedSession, StrictSession):
            self.assertTrue(issubclass(made, Session))
        session = StrictSession(pair(), 3, 30)
        self.assertIsInstance(session, BoundSession)
        self.assertIsInstance(session, CappedSession)
        self.assertFalse(issubclass(BoundSession, CappedSession))

    def test_too_many_stands(self):
        millions = turners.crowd(*turners.OVERFULL)
        for call in (lambda: BoundSession(millions, 5), lambda: StrictSession(millions, 5, 0)):
            with self.assertRaises(TooMany) as caught:
                call()
            self.assertEqual(vars(caught.exception), {"limit": 3000})
        with self.assertRaises(InvalidNumber):
            BoundSession(millions, -1)
        # Without a guard of the growth nobody counts.
        self.assertEqual(Session(millions).price, 0)
        self.assertEqual(CappedSession(millions, 0).price, 0)

    def test_steps_with_too_many_stands(self):
        # The flat layout keeps what Plain keeps; the other one tells more stands apart.
        program = turners.crowd((6,))
        inner = Function("fa", program.main.functions[0].parameters, functions=[Function("k", body=[Show("faa")])],
            body=[*program.main.functions[0].body, Give("k")])
        program = Program(Function("main", functions=[inner], body=program.main.body))
        limit = len(grown(Layout.flat(program), Plain(program))[4][2])
        layout = Layout(program)
        with mock.patch("heldby.stands.STANDS", limit - 1):
            with self.assertRaises(TooMany):
                BoundSession(program, 3)
        with mock.patch("heldby.stands.STANDS", limit):
            session = BoundSession(program, 3)
            session.weigh(fa=0)
            session.adopt(Layout.flat(program))
            self.assertEqual(session.undoable, 2)
        with mock.patch("heldby.stands.STANDS", limit - 1):
            for call in (lambda: session.adopt(layout), lambda: session.weigh(fa=1), lambda: session.apply(),
                lambda: session.improve()):
                self.refused(session, TooMany, {"limit": limit - 1}, call)
            session.undo(2)
            session.redo()

    def test_leaks_ahead_of_too_dear(self):
        program, layout = self.leaking(2)
        cap = price(Layout.flat(program))
        self.assertGreater(price(layout), cap)
        session = StrictSession(program, 1, cap)
        self.refused(session, Leaks, {"value": 2}, lambda: session.adopt(layout))
        session = StrictSession(program, 2, cap)
        self.refused(session, TooDear, {"value": price(layout)}, lambda: session.adopt(layout))
        session = StrictSession(program, 2, price(layout))
        session.adopt(layout)
        self.refused(session, TooDear, {"value": price(layout, {"main": 2})}, lambda: session.weigh(main=2))

    def test_behind_all_other_errors(self):
        program, layout = self.leaking(2)
        session = StrictSession(program, 0, price(Layout.flat(program)))
        self.refused(session, OtherProgram, {}, lambda: session.adopt(Layout(nest(), bundles=[["a", "n"]])))
        self.refused(session, UnknownName, {"value": "nobody"}, lambda: session.weigh(main=10 ** 6, nobody=1))
        self.refused(session, InvalidNumber, {"value": -1}, lambda: session.weigh(fa=-1, main=10 ** 6))
        self.refused(session, InvalidNumber, {"value": -1}, lambda: session.improve(-1))
        self.refused(session, OtherProgram, {}, lambda: session.apply(Pruning(pair())))
        self.refused(session, Leaks, {"value": 2}, lambda: session.adopt(layout))

    def test_improve(self):
        program = read_program("function main a b c\n  function g\n    show a\n    show b\n    show c\n  function k\n"
            + "    give g\n" * 5 + "  call k\n  show b")
        session = BoundSession(program, 0)
        session.weigh(main=0)
        least = cheapest(program, {"main": 0}, most=None)
        many = growth(least, Plain(program))
        self.assertGreater(many, 0)
        self.refused(session, Leaks, {"value": many}, lambda: session.improve(None))
        self.assertEqual(session.improve(), price(cheapest(program, {"main": 0}), {"main": 0}))
        wider = BoundSession(program, many)
        wider.weigh(main=0)
        self.assertEqual(wider.improve(None), price(least, {"main": 0}))

    def test_apply(self):
        # Renaming changes neither the growth nor the price; pruning neither.
        program, layout = self.leaking(2)
        session = StrictSession(program, 2, price(layout))
        session.adopt(layout)
        session.apply(Renaming(program, {"a": "q"}))
        self.assertEqual(session.price, price(layout))
        # A sinking makes records, which cost more than parameters.
        program = read_program(SINKING)
        change = Sinking(program, "g", "q")
        for cap in (2, 3):
            session = CappedSession(program, cap)
            self.assertEqual(session.price, 2)
            self.refused(session, TooDear, {"value": 4}, lambda: session.apply(change))
        session = CappedSession(program, 4)
        session.apply(change)
        self.assertEqual((session.price, session.program), (4, change.result))

    def test_undo_and_redo_are_not_refused(self):
        program = pair()
        session = StrictSession(program, 1, 9)
        session.adopt(Layout(program, bundles=[["a", "b"]]))
        session.weigh(f=0)
        session.undo(2)
        session.redo(2)
        self.assertEqual((session.undoable, session.price), (2, 6))

    def test_trials(self):
        program, layout = self.leaking(2)
        session = StrictSession(program, 1, 100)
        with session.trial() as trial:
            session.weigh(main=2)
            with self.assertRaises(Leaks):
                session.adopt(layout)
            with self.assertRaises(TooDear):
                session.weigh(main=10 ** 6)
            self.assertEqual(session.weights, {"main": 2})
            trial.keep()
        self.assertEqual((session.undoable, session.weights, trial.is_kept), (1, {"main": 2}, True))
        with self.assertRaises(Leaks):
            with session.trial() as trial:
                session.weigh(main=3)
                trial.keep()
                session.adopt(layout)
        self.assertEqual((session.undoable, session.weights, trial.is_kept), (1, {"main": 2}, False))

    def test_trials_have_no_guard_of_their_own(self):
        self.assertFalse(issubclass(Trial, Session))
        with self.assertRaises(InTrial):
            StrictSession(pair(), 0, 4).attempt(lambda trial: trial._session.undo())


if __name__ == "__main__":
    unittest.main()
