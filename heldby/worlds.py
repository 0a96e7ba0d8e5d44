"""What there is to see when a world is played: frames, closures, things that are kept, and shows."""

from heldby.errors import InvalidWorld, UnknownMoment
from heldby.limits import MOMENTS
from heldby.names import is_integer
from heldby.plays import Play


def stack_at(program, world, moment):
    """The frames that stand at a moment of the last turn, as tuples (name, point, things)."""
    play, stack, _ = _seen(program, world, moment)
    return [(name, point, _things(program, play, name, holds)) for name, point, holds in stack]


def held_at(program, world, moment):
    """The closures that are held at a moment of the last turn, as tuples (number, name, things)."""
    play, _, held = _seen(program, world, moment)
    rows = [(number, *held[number]) for number in held]
    return [(number, name, _things(program, play, program.parent(name), holds)) for number, name, holds in rows]


def kept_at(keeper, world, moment):
    """The things that the keeper keeps at a moment of the last turn, ascending."""
    play, stack, held = _seen(keeper.program, world, moment)
    kept = {}
    for name, point, holds in stack:
        for variable in keeper.frame(name, point):
            kept[play.content(holds, variable)] = True
    for name, holds in list(held.values()):
        for variable in keeper.closure(name):
            kept[play.content(holds, variable)] = True
    return tuple(sorted(list(kept)))


def count_moments(program, world):
    """How many numbered moments the last turn has."""
    return _seen(program, world, None)[0].moments


def shows_of(program, world):
    """What is shown in each turn: a list of tuples (name, value) for each."""
    _check_list(world)
    play = Play(program)
    shows = []
    for index, turn in enumerate(world):
        play.play(index, turn, None)
        shows.append(play.shown)
    return shows


def _seen(program, world, moment):
    """The Play of a world, and the frames that stand and the closures that are held at the moment."""
    _check_list(world)
    play = Play(program)
    # What is no moment is told at the end, behind all that is wrong with the world.
    wanted = moment if is_integer(moment, 0, MOMENTS) else None
    last = len(world) - 1
    for index, turn in enumerate(world):
        play.play(index, turn, wanted if index == last else None)
    if moment is None:
        return play, [], play.held
    if play.seen is None:
        raise UnknownMoment(moment)
    stack, held = play.seen
    return play, stack, held


def _check_list(world):
    if not isinstance(world, (list, tuple)) or not world:
        raise InvalidWorld(-1)


def _things(program, play, name, holds):
    """A dict from the thing variables of the chain of a function to their things; none for no function."""
    if name is None:
        return {}
    return {thing: play.content(holds, thing) for thing in program.chain_things(name)}
