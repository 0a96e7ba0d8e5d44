"""Sessions: work on a layout step by step, with undoing, trials and guards."""

from heldby.errors import (
    InTrial, InvalidNumber, Leaks, NothingToRedo, NothingToUndo, OtherProgram, TooDear, UnknownName,
)
from heldby.growth import growth
from heldby.keepers import Plain
from heldby.layouts import Layout
from heldby.names import is_integer, is_plain_integer
from heldby.prices import MOST_GROWTH, cheapest
from heldby.programs import Program
from heldby.statements import Function
from heldby.weighing import is_weight
from heldby.works import Work, carried_work


class Trial:
    """A `with` block of a session whose steps are taken back at its end, unless they are kept."""

    def __init__(self, session):
        self._session = session
        # True from keep() on; till then None, as this is all that the end of a block may ask for.
        self._is_wanted = None
        self._is_kept = False

    @property
    def is_kept(self):
        """Whether the block has ended and its steps were kept."""
        return self._is_kept

    def keep(self):
        """Lets the steps of the block stay when it ends."""
        self._is_wanted = True

    def __enter__(self):
        # What the session may become at the end is made ready here, as nothing is made there.
        session = self._session
        self._now, self._depth = session._now, session._depth
        self._past, self._future = session._past, session._future
        if session._depth == 0:
            self._past, self._future = (*session._past, session._now), ()
        session._depth += 1
        return self

    def __exit__(self, kind, value, trace):
        session = self._session
        session._depth = self._depth
        if kind is None and self._is_wanted is not None:
            self._is_kept = True
            session._past = self._past
            session._future = self._future
            return
        session._now = self._now


class Session:
    """A program with a layout and weights, which change in steps."""

    def __init__(self, program):
        self._set_out(program)

    def _set_out(self, program):
        """Begins with the flat layout and without weights."""
        self._past = ()
        self._now = Work(Layout.flat(program), {})
        self._future = ()
        self._depth = 0
        self._check_guards(self._now)

    @property
    def program(self):
        """The program."""
        return self._now.program

    @property
    def layout(self):
        """The layout of the program."""
        return self._now.layout

    @property
    def weights(self):
        """A new dict of the weights, ascending by names."""
        return self._now.weights

    @property
    def price(self):
        """The price of the layout by the weights."""
        return self._now.price

    @property
    def undoable(self):
        """How many steps can be undone; within a trial, at its beginning."""
        return len(self._past)

    @property
    def redoable(self):
        """How many steps can be redone; within a trial, at its beginning."""
        return len(self._future)

    @property
    def depth(self):
        """How many trials are in progress."""
        return self._depth

    def __eq__(self, other):
        return (
            isinstance(other, Session)
            and self.program == other.program
            and self.layout.choice() == other.layout.choice()
            and self.weights == other.weights
        )

    def adopt(self, layout):
        """Takes another layout of the program."""
        if layout.program != self.program:
            raise OtherProgram()
        self._step(Work(layout, self.weights))

    def apply(self, *changes):
        """Makes changes of the program, one after the other, and carries the layout and the weights over."""
        program = self.program
        for change in changes:
            if change.program != program:
                raise OtherProgram()
            program = change.result
        work = self._now
        for change in changes:
            work = carried_work(change, work)
        self._step(work)

    def weigh(self, **weights):
        """Sets the weights of these used functions; None takes one away."""
        self.weigh_all(weights)

    def weigh_all(self, weights):
        """The same for a dict from any strings to any values."""
        for name in sorted(list(weights)):
            if name not in self.program.used:
                raise UnknownName(name)
        for name in sorted(list(weights)):
            if weights[name] is not None and not is_weight(weights[name]):
                raise InvalidNumber(weights[name])
        weighed = self.weights
        weighed.update(weights)
        self._step(Work(self.layout, {name: weighed[name] for name in weighed if weighed[name] is not None}))

    def improve(self, most=0):
        """Takes any cheapest layout of the family with a growth of at most this one; returns its price."""
        self._step(Work(cheapest(self.program, self.weights, most=most), self.weights))
        return self.price

    def undo(self, count=1):
        """Goes back so many steps."""
        self._check_count(count)
        if count > len(self._past):
            raise NothingToUndo()
        self._move_to(len(self._past) - count)

    def redo(self, count=1):
        """Goes so many steps forth that were undone."""
        self._check_count(count)
        if count > len(self._future):
            raise NothingToRedo()
        self._move_to(len(self._past) + count)

    def trial(self):
        """A Trial for one `with` block."""
        return Trial(self)

    def attempt(self, call):
        """Calls a function with the Trial of a block around it, and returns what it returns."""
        with self.trial() as trial:
            return call(trial)

    def works(self):
        """Yields tuples (program, layout, weights): those to which undo leads, the oldest first, and the present."""
        for work in (*self._past, self._now):
            yield (work.program, work.layout, work.weights)

    def copied(self):
        """A session with the same work, and the same steps to undo and to redo, in no trial."""
        copy = Session(_least_program())
        copy.go_on_like(self)
        return copy

    def go_on_like(self, other):
        """Takes over the work and the steps of another session, of which all guards hold."""
        self._past, self._now, self._future = other._past, other._now, other._future

    def all_or_none(self, call):
        """Calls a function without arguments and returns what it returns; if it raises an error, all is as it was."""
        past, now, future = self._past, self._now, self._future
        is_done = None
        try:
            answer = call()
            is_done = True
        finally:
            if is_done is None:
                self._past, self._now, self._future = past, now, future
        return answer

    def _check_guards(self, work):
        """Raises the error of the first guard that does not hold of a work; a plain session has none."""

    def _step(self, work):
        self._check_guards(work)
        if self._depth == 0:
            self._past = (*self._past, self._now)
            self._future = ()
        self._now = work

    def _check_count(self, count):
        if self._depth > 0:
            raise InTrial()
        if not is_plain_integer(count) or count < 1:
            raise InvalidNumber(count)

    def _move_to(self, at):
        """Goes to one of all works, counted from the oldest one."""
        rows = (*self._past, self._now, *self._future)
        self._past, self._now, self._future = rows[:at], rows[at], rows[at + 1:]


def _least_program():
    """A program of which all guards hold, as they might not of the flat layout of the program of a session."""
    return Program(Function("main"))


class BoundSession(Session):
    """A session whose layout has a growth of at most a number."""

    def __init__(self, program, most):
        _check_most(most)
        self._most = most
        self._set_out(program)

    @property
    def most(self):
        """The greatest growth that is let."""
        return self._most

    def copied(self):
        """A session with the same work and guard, and the same steps to undo and to redo, in no trial."""
        copy = BoundSession(_least_program(), self._most)
        copy.go_on_like(self)
        return copy

    def _check_guards(self, work):
        _check_growth(work, self._most)


class CappedSession(Session):
    """A session whose price is at most a number."""

    def __init__(self, program, cap):
        _check_cap(cap)
        self._cap = cap
        self._set_out(program)

    @property
    def cap(self):
        """The greatest price that is let."""
        return self._cap

    def copied(self):
        """A session with the same work and guard, and the same steps to undo and to redo, in no trial."""
        copy = CappedSession(_least_program(), self._cap)
        copy.go_on_like(self)
        return copy

    def _check_guards(self, work):
        _check_price(work, self._cap)


class StrictSession(BoundSession, CappedSession):
    """A session with both guards."""

    def __init__(self, program, most, cap):
        _check_most(most)
        _check_cap(cap)
        self._most = most
        self._cap = cap
        self._set_out(program)

    @property
    def most(self):
        """The greatest growth that is let."""
        return self._most

    @property
    def cap(self):
        """The greatest price that is let."""
        return self._cap

    def copied(self):
        """A session with the same work and guards, and the same steps to undo and to redo, in no trial."""
        copy = StrictSession(_least_program(), self._most, self._cap)
        copy.go_on_like(self)
        return copy

    def _check_guards(self, work):
        _check_growth(work, self._most)
        _check_price(work, self._cap)


def _check_most(most):
    if not is_integer(most, 0, MOST_GROWTH):
        raise InvalidNumber(most)


def _check_cap(cap):
    if not is_plain_integer(cap) or cap < 0:
        raise InvalidNumber(cap)


def _check_growth(work, most):
    many = growth(work.layout, Plain(work.program))
    if many is None or many > most:
        raise Leaks(many)


def _check_price(work, cap):
    if work.price > cap:
        raise TooDear(work.price)
