"""Which layouts of the family of a program keep only so many things more than it needs."""

from heldby.growth import growth
from heldby.safety import Safety


class Leaking:
    """Tells of layouts whether their growth beside Plain is at most a number; None lets all."""

    def __init__(self, program, most):
        self._safety = Safety(program)
        self._most = most
        self._leaky = []

    def first(self, layouts):
        """The first one of the layouts that is let."""
        for layout in layouts:
            if self._lets(layout):
                return layout
        return None

    def _lets(self, layout):
        if self._most is None or self._safety.is_safe(layout):
            return True
        # One that is coarser than another one keeps no less, so its growth is no less.
        if self._most == 0 or any([finer.refines(layout) for finer in self._leaky]):
            return False
        many = growth(layout, self._safety.plain)
        if many is not None and many <= self._most:
            return True
        self._leaky.append(layout)
        return False
