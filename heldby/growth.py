"""How many things more one keeper keeps than another one, at most."""

from heldby.bounds import Bounds
from heldby.building import world_of
from heldby.counts import is_count, least_count
from heldby.errors import InvalidWorld, TooLong
from heldby.keepers import check_one_program
from heldby.limits import MOMENTS
from heldby.names import is_plain_integer
from heldby.rounds import is_round
from heldby.routes import Routes, steps_of_path
from heldby.seeing import kept_things, played
from heldby.stands import Stands


def growth(one, other):
    """The greatest number of things that the one keeps and the other does not, None if there is no greatest one."""
    check_one_program(one, other)
    return Bounds(Stands(one, other)).many


def grown(one, other):
    """("most", number, world, moment, count) or ("round", world, first, again), which is_grown checks."""
    check_one_program(one, other)
    stands = Stands(one, other)
    bounds = Bounds(stands)
    routes = Routes(one.program, stands)
    if bounds.many is None:
        ends = routes.around(bounds.knots, bounds.growing)
        if ends is None:
            raise TooLong(MOMENTS)
        _, first = world_of(one.program, steps_of_path(ends[0]))
        world, again = world_of(one.program, steps_of_path(ends[1]))
        return ("round", world, first, again)
    path = routes.to_stand(bounds.many, bounds.bounds)
    if path is None:
        path = routes.to_closure(bounds.many)
    if path is None:
        # There are such worlds, but each of them has a turn that is too long to be played.
        raise TooLong(MOMENTS)
    world, moment = world_of(one.program, steps_of_path(path))
    return ("most", bounds.many, world, moment, least_count(stands, bounds.bounds))


def is_grown(one, other, value):
    """Whether any value is such a tuple."""
    check_one_program(one, other)
    if not isinstance(value, tuple) or not value:
        return False
    if value[0] == "most" and len(value) == 5:
        return _is_most(one, other, value[1:])
    if value[0] == "round" and len(value) == 4:
        return is_round(one, other, value[1], value[2:])
    return False


def _is_most(one, other, value):
    number, world, moment, count = value
    if not is_plain_integer(number):
        return False
    return _count_at(one, other, world, moment) == number and is_count(one, other, number, count)


def _count_at(one, other, world, moment):
    """How many things are too much at a moment at which few closures are held; None for values that are none."""
    try:
        play = played(one.program, world, (moment,))
    except (InvalidWorld, TooLong):
        return None
    if moment is None:
        stack, held = [], play.held
    elif is_plain_integer(moment) and moment in play.seen:
        stack, held = play.seen[moment]
    else:
        return None
    if len(held) > (0 if stack else 1):
        return None
    by_other = kept_things(other, play, stack, held)
    return len([thing for thing in kept_things(one, play, stack, held) if thing not in by_other])
