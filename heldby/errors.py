"""The errors of the package: each keeps the values that it is made with."""


class InvalidProgram(ValueError):
    """A function, a list, a name or a statement of a program is not as told; place names the function."""

    def __init__(self, place):
        self.place = place


class DuplicateName(ValueError):
    """A name stands twice in a program."""

    def __init__(self, value):
        self.value = value


class WrongKind(ValueError):
    """A thing variable stands where a number must stand, or the other way around."""

    def __init__(self, value):
        self.value = value


class WrongCount(ValueError):
    """A call passes another number of things than its function has parameters."""

    def __init__(self, value):
        self.value = value


class Endless(ValueError):
    """A function cannot come to its end."""

    def __init__(self, value):
        self.value = value


class InvalidBundle(ValueError):
    """A bundle of a layout is not as told; -1 if there is no list of bundles."""

    def __init__(self, index):
        self.index = index


class InvalidList(ValueError):
    """What is linked or opened in a layout is no list; value tells which."""

    def __init__(self, value):
        self.value = value


class InvalidWeights(ValueError):
    """A value is no dict of weights."""

    def __init__(self, value):
        self.value = value


class InvalidNumber(ValueError):
    """A value is not one of the numbers that are let here."""

    def __init__(self, value):
        self.value = value


class InvalidWorld(ValueError):
    """A turn of a world is not as told; -1 if there is no list of turns."""

    def __init__(self, index):
        self.index = index


class OtherProgram(ValueError):
    """Two things that must have one program have unlike ones."""


class NotJoined(ValueError):
    """Variables of different functions cannot lie in one bundle."""


class InvalidName(ValueError):
    """A value is no name."""

    def __init__(self, value):
        self.value = value


class InUse(ValueError):
    """A function that stays calls or gives a function that would be taken out."""

    def __init__(self, value):
        self.value = value


class GivenAway(ValueError):
    """A function is given, so its parameters cannot be changed."""

    def __init__(self, value):
        self.value = value


class NotSame(ValueError):
    """The calls of a function do not pass one variable for a parameter."""

    def __init__(self, value):
        self.value = value


class Unreadable(ValueError):
    """A text is not of the form; line is the first one that does not fit."""

    def __init__(self, line):
        self.line = line


class CommandError(ValueError):
    """A value is no line that a desk answers."""

    def __init__(self, value):
        self.value = value


class UnknownName(LookupError):
    """A value is not one of the names that are known here."""

    def __init__(self, value):
        self.value = value


class UnknownPoint(LookupError):
    """A value is no point of a function."""

    def __init__(self, value):
        self.value = value


class UnknownUnit(LookupError):
    """A value is no unit of a layout."""

    def __init__(self, value):
        self.value = value


class UnknownMoment(LookupError):
    """A value is no moment of the last turn of a world."""

    def __init__(self, value):
        self.value = value


class InvalidIndex(LookupError):
    """A value is no index of a list."""

    def __init__(self, value):
        self.value = value


class OutOfRange(LookupError):
    """A value is not the number of a line."""

    def __init__(self, value):
        self.value = value


class NotHeld(LookupError):
    """The closure with this number is not held."""

    def __init__(self, value):
        self.value = value


class NothingToUndo(LookupError):
    """There are fewer steps to undo than were asked for."""


class NothingToRedo(LookupError):
    """There are fewer steps to redo than were asked for."""


class NotFlag(TypeError):
    """A value is no bool."""

    def __init__(self, value):
        self.value = value


class TooMany(OverflowError):
    """There are more of something than its limit."""

    def __init__(self, limit):
        self.limit = limit


class TooLong(OverflowError):
    """A turn has more moments than its limit."""

    def __init__(self, limit):
        self.limit = limit


class TooDear(OverflowError):
    """The price of a layout is above the cap; value is the price."""

    def __init__(self, value):
        self.value = value


class InTrial(RuntimeError):
    """Nothing can be undone or redone within a trial."""


class Leaks(RuntimeError):
    """The growth of a layout is above the most; value is the growth."""

    def __init__(self, value):
        self.value = value
