import unittest

from heldby.changes import Renaming
from heldby.errors import InTrial, InvalidNumber, UnknownName
from heldby.layouts import Layout
from heldby.sessions import BoundSession, CappedSession, Session, StrictSession, Trial
from tests.samples import any_values
from tests.test_grown import pair
from tests.test_sessions import redone, state, work


class Stop(Exception):
    """An error that the program does not know."""


def begun():
    """A session with three steps, one of which is undone."""
    session = Session(pair())
    for many in range(3):
        session.weigh(f=many)
    session.undo()
    return session


def guarded():
    """The same session with guards of each kind, which hold of all that is done here."""
    found = [begun()]
    for made in (BoundSession(pair(), 5), CappedSession(pair(), 10 ** 9), StrictSession(pair(), 5, 10 ** 9)):
        for many in range(3):
            made.weigh(f=many)
        made.undo()
        found.append(made)
    return found


class KeptTest(unittest.TestCase):
    def test_a_trial_that_is_not_kept(self):
        for session in guarded():
            before = state(session), redone(session)
            with session.trial() as trial:
                self.assertIsInstance(trial, Trial)
                session.weigh(g=5)
                session.adopt(Layout(pair(), linked=["f"]))
                session.apply(Renaming(pair(), {"a": "q"}))
                self.assertEqual(session.weights, {"f": 1, "g": 5})
                self.assertEqual(session.layout.linked, ("f",))
                self.assertNotEqual(session.program, pair())
                self.assertIs(trial.is_kept, False)
            self.assertEqual((state(session), redone(session)), before)
            self.assertIs(trial.is_kept, False)
            session.redo()
            self.assertEqual(session.weights, {"f": 2})

    def test_a_trial_that_is_kept(self):
        for session in guarded():
            before = state(session)
            with session.trial() as trial:
                session.weigh(g=5)
                self.assertIsNone(trial.keep())
                self.assertIs(trial.is_kept, False)
                session.adopt(Layout(pair(), linked=["f"]))
            self.assertIs(trial.is_kept, True)
            self.assertEqual(work(session), (pair(), ((), ("f",), ()), {"f": 1, "g": 5}))
            # All of it is one step, which takes away what could be redone.
            self.assertEqual((session.undoable, session.redoable, session.depth), (before[2] + 1, 0, 0))
            self.assertEqual([weights for _, _, weights in session.works()], [{}, {"f": 0}, {"f": 1}, {"f": 1, "g": 5}])
            session.undo()
            self.assertEqual(work(session), before[0])
            session.redo()
            self.assertEqual(session.weights, {"f": 1, "g": 5})

    def test_a_kept_trial_without_steps(self):
        session = begun()
        before = state(session)
        with session.trial() as trial:
            trial.keep()
        self.assertEqual((work(session), session.undoable, session.redoable), (before[0], before[2] + 1, 0))
        session.undo()
        self.assertEqual(work(session), before[0])
        self.assertEqual(session.undoable, 2)

    def test_a_trial_without_steps(self):
        session = begun()
        before = state(session), redone(session)
        with session.trial() as trial:
            pass
        self.assertEqual((state(session), redone(session)), before)
        self.assertIs(trial.is_kept, False)

    def test_keeping_twice(self):
        session = begun()
        with session.trial() as trial:
            trial.keep()
            session.weigh(g=1)
            trial.keep()
        self.assertEqual((session.undoable, trial.is_kept), (3, True))

    def test_refused_calls_within(self):
        session = begun()
        with session.trial() as trial:
            session.weigh(g=1)
            with self.assertRaises(UnknownName):
                session.weigh(nobody=1)
            with self.assertRaises(InvalidNumber):
                session.weigh(g=-1)
            self.assertEqual(session.weights, {"f": 1, "g": 1})
            trial.keep()
        self.assertEqual((session.weights, session.undoable), ({"f": 1, "g": 1}, 3))

    def test_several_trials(self):
        session = begun()
        for at in range(3):
            with session.trial() as trial:
                session.weigh(g=at)
                if at % 2 == 0:
                    trial.keep()
        self.assertEqual((session.weights, session.undoable), ({"f": 1, "g": 2}, 4))
        self.assertEqual([weights.get("g") for _, _, weights in session.works()], [None, None, None, 0, 2])

    def test_a_trial_is_made_ahead_of_its_block(self):
        session = begun()
        trial = session.trial()
        self.assertEqual(session.depth, 0)
        session.weigh(f=7)
        with trial as target:
            self.assertIs(target, trial)
            session.weigh(f=8)
        self.assertEqual((session.weights, session.undoable), ({"f": 7}, 3))


class ErrorsTest(unittest.TestCase):
    def test_exceptions_go_on(self):
        for error in (Stop("x"), UnknownName("y"), ValueError(), KeyboardInterrupt(), GeneratorExit()):
            for keeps in (False, True):
                session = begun()
                before = state(session), redone(session)
                trial = session.trial()
                with self.assertRaises(type(error)) as caught:
                    with trial:
                        session.weigh(g=4)
                        if keeps:
                            trial.keep()
                        raise error
                self.assertIs(caught.exception, error)
                self.assertEqual((state(session), redone(session)), before)
                self.assertIs(trial.is_kept, False)
                session.redo()
                self.assertEqual(session.weights, {"f": 2})

    def test_refused_calls_leave_a_trial(self):
        session = begun()
        before = state(session), redone(session)
        with self.assertRaises(UnknownName):
            with session.trial() as trial:
                session.weigh(g=4)
                trial.keep()
                session.weigh(nobody=4)
        self.assertEqual((state(session), redone(session)), before)

    def test_leaving_by_return_break_and_continue(self):
        session = begun()

        def leave(keeps):
            for at in range(3):
                with session.trial() as trial:
                    session.weigh(g=at)
                    if keeps:
                        trial.keep()
                    if at == 0:
                        continue
                    if at == 1:
                        return trial
            return None

        self.assertIs(leave(False).is_kept, False)
        self.assertEqual((session.weights, session.undoable), ({"f": 1}, 2))
        self.assertIs(leave(True).is_kept, True)
        self.assertEqual((session.weights, session.undoable), ({"f": 1, "g": 1}, 4))


class NestedTest(unittest.TestCase):
    def nested(self, outer, inner):
        session = begun()
        with session.trial() as first:
            session.weigh(g=1)
            with session.trial() as second:
                session.weigh(main=2)
                if inner:
                    second.keep()
                self.assertEqual(session.depth, 2)
            self.assertIs(second.is_kept, inner)
            self.assertEqual(session.weights, {"f": 1, "g": 1, "main": 2} if inner else {"f": 1, "g": 1})
            self.assertEqual(session.depth, 1)
            if outer:
                first.keep()
        # Whatever becomes of the trial around it.
        self.assertIs(second.is_kept, inner)
        self.assertIs(first.is_kept, outer)
        return session

    def test_four_cases(self):
        before = state(begun()), redone(begun())
        for inner in (False, True):
            session = self.nested(False, inner)
            self.assertEqual((state(session), redone(session)), before)
        for inner in (False, True):
            session = self.nested(True, inner)
            self.assertEqual(session.weights, {"f": 1, "g": 1, "main": 2} if inner else {"f": 1, "g": 1})
            self.assertEqual((session.undoable, session.redoable), (3, 0))
            session.undo()
            self.assertEqual(state(session)[0], before[0][0])

    def test_an_exception_that_is_caught_between(self):
        session = begun()
        with session.trial() as first:
            session.weigh(g=1)
            try:
                with session.trial() as second:
                    second.keep()
                    session.weigh(g=2)
                    raise Stop()
            except Stop:
                pass
            self.assertEqual((session.weights, session.depth), ({"f": 1, "g": 1}, 1))
            first.keep()
        self.assertEqual((session.weights, session.undoable, first.is_kept, second.is_kept),
            ({"f": 1, "g": 1}, 3, True, False))

    def test_many_levels(self):
        session = begun()

        def go(level):
            with session.trial() as trial:
                session.weigh(g=level)
                self.assertEqual((session.depth, session.undoable, session.redoable), (level, 2, 1))
                if level < 50:
                    go(level + 1)
                    self.assertEqual(session.depth, level)
                    self.assertEqual(session.weights, {"f": 1, "g": 50})
                trial.keep()

        go(1)
        self.assertEqual((session.weights, session.undoable, session.depth), ({"f": 1, "g": 50}, 3, 0))
        session.undo()
        self.assertEqual(session.weights, {"f": 1})

    def test_two_sessions(self):
        one, other = begun(), begun()
        with one.trial() as first, other.trial():
            one.weigh(g=1)
            other.weigh(g=2)
            self.assertEqual((one.depth, other.depth), (1, 1))
            first.keep()
        self.assertEqual((one.weights, other.weights), ({"f": 1, "g": 1}, {"f": 1}))


class WithinTest(unittest.TestCase):
    def test_undo_and_redo(self):
        session = begun()
        with session.trial():
            session.weigh(g=1)
            for call in (session.undo, session.redo):
                for args in ((), (1,), (99,), *[(value,) for value in any_values()]):
                    with self.assertRaises(InTrial) as caught:
                        call(*args)
                    self.assertEqual(vars(caught.exception), {})
            with session.trial():
                with self.assertRaises(InTrial):
                    session.undo()
            with self.assertRaises(InTrial):
                session.redo(count=1)
        session.undo()
        session.redo(2)

    def test_undoable_redoable_and_works(self):
        session = begun()
        works = [weights for _, _, weights in session.works()]
        with session.trial() as first:
            # Those of the outermost beginning: the work at its beginning is not among them.
            self.assertEqual([weights for _, _, weights in session.works()], works)
            session.weigh(g=1)
            session.weigh(g=2)
            self.assertEqual((session.undoable, session.redoable, session.depth), (2, 1, 1))
            self.assertEqual([weights for _, _, weights in session.works()], [{}, {"f": 0}, {"f": 1, "g": 2}])
            with session.trial() as second:
                session.weigh(g=3)
                self.assertEqual((session.undoable, session.redoable, session.depth), (2, 1, 2))
                self.assertEqual([weights for _, _, weights in session.works()], [{}, {"f": 0}, {"f": 1, "g": 3}])
                second.keep()
            self.assertEqual((session.undoable, session.redoable, session.depth), (2, 1, 1))
            first.keep()
        self.assertEqual((session.undoable, session.redoable, session.depth), (3, 0, 0))

    def test_copies(self):
        for session in guarded():
            with session.trial():
                session.weigh(g=4)
                with session.trial():
                    session.weigh(g=5)
                    copied = session.copied()
                    self.assertIs(type(copied), type(session))
                    self.assertEqual((copied.depth, copied.undoable, copied.redoable), (0, 2, 1))
                    self.assertTrue(copied == session)
                    self.assertEqual([weights for _, _, weights in copied.works()],
                        [weights for _, _, weights in session.works()])
            self.assertEqual(copied.weights, {"f": 1, "g": 5})
            self.assertEqual(session.weights, {"f": 1})
            copied.undo()
            self.assertEqual(copied.weights, {"f": 0})
            copied.redo(2)
            self.assertEqual(copied.weights, {"f": 2})

    def test_improve_and_price(self):
        session = begun()
        with session.trial():
            session.adopt(Layout(pair(), bundles=[["a", "b"]]))
            self.assertEqual(session.improve(), 4)
            session.weigh(f=0)
            self.assertEqual(session.price, 3)
        self.assertEqual(session.price, 4)


class AttemptTest(unittest.TestCase):
    def test_what_is_returned(self):
        session = begun()
        for value in any_values():
            self.assertIs(session.attempt(lambda trial: value), value)
        self.assertEqual(state(session), state(begun()))

    def test_a_call_that_keeps(self):
        session, found = begun(), []

        def call(trial):
            found.append(trial)
            session.weigh(g=3)
            self.assertEqual(session.depth, 1)
            trial.keep()
            return session.price

        self.assertEqual(session.attempt(call), 6)
        self.assertIsInstance(found[0], Trial)
        self.assertIs(found[0].is_kept, True)
        self.assertEqual((session.weights, session.undoable), ({"f": 1, "g": 3}, 3))
        self.assertIsNone(session.attempt(call=lambda trial: None))

    def test_a_call_that_does_not_keep(self):
        session = begun()
        self.assertEqual(session.attempt(lambda trial: session.weigh(g=3) or session.weights), {"f": 1, "g": 3})
        self.assertEqual(state(session), state(begun()))

    def test_errors(self):
        session = begun()

        def call(trial):
            trial.keep()
            session.weigh(g=3)
            raise Stop()

        with self.assertRaises(Stop):
            session.attempt(call)
        self.assertEqual((state(session), redone(session)), (state(begun()), redone(begun())))

    def test_attempts_in_attempts(self):
        session = begun()

        def outer(trial):
            session.weigh(g=1)
            session.attempt(lambda inner: session.weigh(g=2))
            session.attempt(lambda inner: (session.weigh(main=2), inner.keep()))
            trial.keep()
            return session.depth

        self.assertEqual(session.attempt(outer), 1)
        self.assertEqual((session.weights, session.undoable, session.depth), ({"f": 1, "g": 1, "main": 2}, 3, 0))


if __name__ == "__main__":
    unittest.main()
