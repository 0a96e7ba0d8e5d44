"""Playing whole worlds, and the things that a keeper keeps of what is seen then."""

from heldby.errors import InvalidWorld
from heldby.limits import MOMENTS
from heldby.names import is_integer
from heldby.plays import Play


def check_turns(world):
    """Raises InvalidWorld(-1) for any value that is no list."""
    if not isinstance(world, (list, tuple)):
        raise InvalidWorld(-1)


def check_world(world):
    """Raises InvalidWorld(-1) for any value that is no list, or an empty one."""
    check_turns(world)
    if not world:
        raise InvalidWorld(-1)


def played(program, world, moments):
    """The Play of a world; what stands and is held at the moments of its last turn is seen in it.

    The moments may be any values. What is no moment of the last turn is not seen.
    """
    check_world(world)
    play = Play(program)
    wanted = [moment for moment in moments if is_integer(moment, 0, MOMENTS)]
    last = len(world) - 1
    for index, turn in enumerate(world):
        play.play(index, turn, wanted if index == last else ())
    return play


def kept_things(keeper, play, stack, held):
    """The things that the keeper keeps for the frames of a stack and for held closures, ascending."""
    kept = {}
    for name, point, holds, _ in stack:
        for variable in keeper.frame(name, point):
            kept[play.content(holds, variable)] = True
    for name, holds in list(held.values()):
        for variable in keeper.closure(name):
            kept[play.content(holds, variable)] = True
    return tuple(sorted(list(kept)))


def chain_contents(program, play, name, holds):
    """A dict from the thing variables of the chain of a function to their things; none for no function."""
    if name is None:
        return {}
    return {thing: play.content(holds, thing) for thing in program.chain_things(name)}
