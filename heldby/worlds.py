"""What there is to see when a world is played: frames, closures, things that are kept, and shows."""

from heldby.errors import UnknownMoment
from heldby.names import is_plain_integer
from heldby.plays import Play
from heldby.seeing import chain_contents, check_world, kept_things, played


def stack_at(program, world, moment):
    """The frames that stand at a moment of the last turn, as tuples (name, point, things)."""
    play, stack, _ = _seen(program, world, moment)
    return [(name, point, chain_contents(program, play, name, holds)) for name, point, holds, _ in stack]


def held_at(program, world, moment):
    """The closures that are held at a moment of the last turn, as tuples (number, name, things)."""
    play, _, held = _seen(program, world, moment)
    rows = [(number, *held[number]) for number in held]
    return [(number, name, chain_contents(program, play, program.parent(name), holds)) for number, name, holds in rows]


def kept_at(keeper, world, moment):
    """The things that the keeper keeps at a moment of the last turn, ascending."""
    play, stack, held = _seen(keeper.program, world, moment)
    return kept_things(keeper, play, stack, held)


def count_moments(program, world):
    """How many numbered moments the last turn has."""
    return played(program, world, ()).moments


def shows_of(program, world):
    """What is shown in each turn: a list of tuples (name, value) for each."""
    check_world(world)
    play = Play(program)
    shows = []
    for index, turn in enumerate(world):
        play.play(index, turn, ())
        shows.append(play.shown)
    return shows


def _seen(program, world, moment):
    """The Play of a world, and the frames that stand and the closures that are held at the moment."""
    play = played(program, world, (moment,))
    if moment is None:
        return play, [], play.held
    # A value that is no integer may have no place in a dict.
    if not is_plain_integer(moment) or moment not in play.seen:
        raise UnknownMoment(moment)
    stack, held = play.seen[moment]
    return play, stack, held
