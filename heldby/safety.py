"""Which layouts of a program keep no more than it needs."""

from heldby.keepers import Plain
from heldby.tables import broken, least_table


class Safety:
    """Tells of many layouts of a program whether they keep no more than Plain."""

    def __init__(self, program):
        self.plain = Plain(program)
        # These sets depend on the other keeper alone, so they are the same for all layouts.
        self._held, _, self._standing = least_table(self.plain, self.plain)

    def is_safe(self, layout):
        """Whether the layout keeps no more than Plain."""
        return not broken(layout, self.plain, self._held, self._standing)
