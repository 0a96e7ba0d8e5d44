"""Carrying keepers from a program to another one that was made from it."""

from heldby.keepers import Told, points
from heldby.layouts import Layout
from heldby.rewriting import renamed_all


class Move:
    """A function that is in both programs: its names, and what is kept in the place of what it kept."""

    def __init__(self, old, new, in_closures, in_frames):
        """The last two are dicts from thing variables to others, or to None for those that are not kept any more."""
        self.old = old
        self.new = new
        self.in_closures = in_closures
        self.in_frames = in_frames


def carried_told(keeper, result, moves):
    """The keeper of the result that keeps what the keeper does, by the moves; nothing for functions without one."""
    closures, frames = {}, {}
    for move in moves:
        if result.parent(move.new) is not None:
            closures[move.new] = _swapped(keeper.closure(move.old), move.in_closures)
        for point in points(result, move.new):
            frames[(move.new, point)] = _swapped(keeper.frame(move.old, point), move.in_frames)
    return Told(result, closures, frames)


def _swapped(names, swaps):
    others = [swaps.get(name, name) for name in names]
    return [name for name in others if name is not None]


def carried_layout(layout, result, names):
    """The layout of the result with the same choices, under new names."""
    return Layout(
        result,
        bundles=[renamed_all(bundle, names) for bundle in layout.bundles],
        linked=renamed_all(layout.linked, names),
        opened=renamed_all(layout.opened, names),
    )
