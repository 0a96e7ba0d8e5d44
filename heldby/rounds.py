"""Two moments between which the calls can be done again and again, and leave more things too much each time."""

from heldby.errors import InvalidWorld, TooLong
from heldby.names import is_plain_integer
from heldby.seeing import chain_contents, played


def is_round(one, other, world, moments):
    """Whether any values are a world and two moments of its last turn, as in the answers of growth."""
    if not all([is_plain_integer(moment) for moment in moments]):
        return False
    try:
        play = played(one.program, world, moments)
    except (InvalidWorld, TooLong):
        return False
    first, again = moments
    if first >= again or first not in play.seen or again not in play.seen:
        return False
    if play.seen[first][1] or play.seen[again][1]:
        return False
    stack = play.seen[again][0]
    # A frame that was entered at a moment is the one on top then, and those below it do not move while it stands.
    entries = [frame[3] for frame in stack]
    if entries[-1] != again or first not in entries:
        return False
    rounded = Rounded(one, other, play)
    for frame in stack[:entries.index(first)]:
        rounded.add_frame(frame)
    start = rounded.stand_of(stack[entries.index(first)])
    count = 0
    for frame, further in zip(stack[entries.index(first):], stack[entries.index(first) + 1:]):
        rounded.add_frame(frame)
        count += rounded.count_lost(frame, further)
    return count > 0 and rounded.stand_of(stack[-1]) == start


class Rounded:
    """What the frames of a stack keep, from the lowest one on."""

    def __init__(self, one, other, play):
        self._one = one
        self._other = other
        self._play = play
        self._by_one = {}
        self._by_other = {}

    def add_frame(self, frame):
        """Adds what one more frame keeps at its point."""
        name, point, holds, _ = frame
        for variable in self._one.frame(name, point):
            self._by_one[self._play.content(holds, variable)] = True
        for variable in self._other.frame(name, point):
            self._by_other[self._play.content(holds, variable)] = True

    def stand_of(self, frame):
        """The stand of a frame that was just entered above those that were added."""
        groups = {}
        contents = self._contents(frame)
        for variable in sorted(list(contents)):
            groups.setdefault(contents[variable], []).append(variable)
        rows = [(tuple(groups[thing]), thing in self._by_one, thing in self._by_other) for thing in groups]
        return (frame[0], tuple(sorted(rows)))

    def count_lost(self, frame, further):
        """How many things of a frame are too much with it, and are in no variable of the one that it called."""
        left = list(self._contents(further).values())
        lost = {thing: True for thing in list(self._contents(frame).values()) if thing not in left}
        return len([thing for thing in lost if thing in self._by_one and thing not in self._by_other])

    def _contents(self, frame):
        return chain_contents(self._one.program, self._play, frame[0], frame[2])
