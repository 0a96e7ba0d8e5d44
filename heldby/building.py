"""Worlds that do the steps of a search, by the shortest turns."""

from heldby.ways import Ways


def world_of(program, steps):
    """A tuple (world, moment): the world that does the steps, and the moment of its last turn at which they end."""
    ways = Ways(program)
    world, things, sites, moment, passed = [], (), [], None, 0
    for word, name, point in steps:
        if word == "turn":
            things = tuple([passed + at for at in range(len(program.function(name).parameters))])
            passed += len(things)
            sites = []
        else:
            sites.append((name, point))
        if word in ("give", "at"):
            choices, ahead, offered = _course(ways, sites)
            takes = (offered - 1,) if word == "give" else ()
            moment = None if word == "give" else ahead - 1
            # Each turn takes one closure at most, and drops the one that it calls: so their numbers are those of turns.
            number = len(world)
            world.append((number, things, choices, takes, (number,)))
    return world, moment


def _course(ways, sites):
    """The choices of a turn that goes by calls behind the points of all sites but the last one, and by its point.

    Also how many moments it has up to the last point, and how many gives.
    """
    choices, moments, gives = [], 0, 0
    last = len(sites) - 1
    for at, (name, point) in enumerate(sites):
        way = ways.before(name, point) if at == last else ways.ahead(name, point)
        moments += way[0]
        choices.extend(way[1])
        gives += way[2]
    for name, point in reversed(sites):
        choices.extend(ways.after(name, point)[1])
    return tuple(choices), moments, gives
