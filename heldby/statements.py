"""The parts of a program: functions and statements. They are made with any values and look at nothing.

Their names are properties, as a name that is a property of any class is assigned in none.
"""


def _copied(value):
    """A tuple of what a list has: the list may change later, the part must not. Otherwise the value."""
    if isinstance(value, list):
        return tuple(value)
    return value


class Statement:
    """The base of the five statements; nobody else makes one."""


class Show(Statement):
    """Shows a variable to the world."""

    def __init__(self, name):
        self._name = name

    @property
    def name(self):
        """The name that stands in it."""
        return self._name

    def __eq__(self, other):
        return isinstance(other, Show) and self._name == other._name


class Add(Statement):
    """Adds an integer to a number."""

    def __init__(self, name, many):
        self._name = name
        self.many = many

    @property
    def name(self):
        """The name that stands in it."""
        return self._name

    def __eq__(self, other):
        return isinstance(other, Add) and self._name == other._name and self.many == other.many


class Call(Statement):
    """Calls a function with things for its parameters."""

    def __init__(self, name, things):
        self._name = name
        self.things = _copied(things)

    @property
    def name(self):
        """The name that stands in it."""
        return self._name

    def __eq__(self, other):
        return isinstance(other, Call) and self._name == other._name and self.things == other.things


class Give(Statement):
    """Offers a closure of a function to the world."""

    def __init__(self, name):
        self._name = name

    @property
    def name(self):
        """The name that stands in it."""
        return self._name

    def __eq__(self, other):
        return isinstance(other, Give) and self._name == other._name


class Either(Statement):
    """Lets the world choose one of two lists of statements."""

    def __init__(self, one, other):
        self.one = _copied(one)
        self.other = _copied(other)

    def __eq__(self, other):
        return isinstance(other, Either) and self.one == other.one and self.other == other.other


class Function:
    """A function with its variables, its inner functions and its body."""

    def __init__(self, name, parameters=(), *, things=(), numbers=(), functions=(), body=()):
        self._name = name
        self.parameters = _copied(parameters)
        self.things = _copied(things)
        self.numbers = _copied(numbers)
        self._functions = _copied(functions)
        self.body = _copied(body)

    @property
    def name(self):
        """The name of the function."""
        return self._name

    @property
    def functions(self):
        """The inner functions."""
        return self._functions

    def __eq__(self, other):
        return (
            isinstance(other, Function)
            and self._name == other._name
            and self.parameters == other.parameters
            and self.things == other.things
            and self.numbers == other.numbers
            and self._functions == other._functions
            and self.body == other.body
        )
