"""Runs: worlds that are played turn by turn, by calling what stands for the closures that are held."""

from heldby.errors import InvalidWorld, NotHeld, TooLong
from heldby.keepers import check_one_program
from heldby.plays import Play
from heldby.seeing import check_turns, kept_things


class Handle:
    """Stands for a closure that the world of a run holds."""

    def __init__(self, run, number, name, held):
        """held is the run's own dict of the handles that are held, by their numbers."""
        self._run = run
        self._number = number
        self._name = name
        self._held = held

    @property
    def number(self):
        """The number of the closure."""
        return self._number

    @property
    def name(self):
        """The name of the function of the closure."""
        return self._name

    @property
    def is_held(self):
        """Whether the closure is still held."""
        return self._number in self._held

    def __call__(self, things=(), choices=(), takes=(), last=False):
        """The turn that calls the closure; returns what is shown. last tells whether it is dropped at the call."""
        return self._run.take_turn(self._number, (things, choices, takes), last)

    def drop(self):
        """Drops the closure: it is not held any more, and the drop belongs to the next turn."""
        self._run.let_go(self._number)


class Run:
    """A world of a program that goes on turn by turn."""

    def __init__(self, program):
        self._program = program
        self._play = Play(program)
        self._turns = []
        self._handles = {}
        self._drops = []
        self._known = -1
        self._add_handles()

    @classmethod
    def of(cls, program, world):
        """The run behind all turns of a world."""
        check_turns(world)
        run = cls(program)
        for turn in world:
            run.do_turn(turn)
        return run

    @property
    def program(self):
        """The program that runs."""
        return self._program

    @property
    def handles(self):
        """The handles of the closures that are held, ascending by their numbers."""
        return tuple(self._handles.values())

    @property
    def world(self):
        """The turns so far."""
        return list(self._turns)

    def kept(self, keeper):
        """The things that the keeper keeps now, while no frame stands, ascending."""
        check_one_program(self, keeper)
        held = {number: self._play.held[number] for number in self._handles}
        return kept_things(keeper, self._play, [], held)

    def take_turn(self, number, told, last):
        """The turn of a handle, with its things, its choices and its takes; returns what is shown."""
        self._check_held(number)
        drops = [*self._drops, number] if last else self._drops
        return self.do_turn((number, *[_as_tuple(value) for value in told], tuple(sorted(drops))))

    def do_turn(self, turn):
        """Plays any value as the next turn; returns what is shown. A turn that raises an error is none."""
        try:
            self._play.play(len(self._turns), turn, ())
        except (InvalidWorld, TooLong):
            self._play.take_back()
            raise
        self._turns.append(turn)
        self._drops = []
        for number in turn[4]:
            # Those that waited for this turn are no handles any more.
            if number in self._handles:
                del self._handles[number]
        self._add_handles()
        return self._play.shown

    def let_go(self, number):
        """Drops a closure with the next turn."""
        self._check_held(number)
        del self._handles[number]
        self._drops.append(number)

    def _check_held(self, number):
        if number not in self._handles:
            raise NotHeld(number)

    def _add_handles(self):
        """Adds the handles of the closures that are new; their numbers are the greatest ones."""
        for number in range(self._known + 1, self._play.taken + 1):
            self._handles[number] = Handle(self, number, self._play.held[number][0], self._handles)
        self._known = self._play.taken


def _as_tuple(value):
    return tuple(value) if isinstance(value, list) else value
