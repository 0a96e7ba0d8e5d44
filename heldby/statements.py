"""The parts of a program: functions and statements. They are made with any values and look at nothing."""


def _copied(value):
    """A tuple of what a list has: the list may change later, the part must not. Otherwise the value."""
    if isinstance(value, list):
        return tuple(value)
    return value


class Statement:
    """The base of the five statements; nobody else makes one."""


class Show(Statement):
    """Shows a variable to the world."""

    def __init__(self, name):
        self.name = name

    def __eq__(self, other):
        return isinstance(other, Show) and self.name == other.name


class Add(Statement):
    """Adds an integer to a number."""

    def __init__(self, name, many):
        self.name = name
        self.many = many

    def __eq__(self, other):
        return isinstance(other, Add) and self.name == other.name and self.many == other.many


class Call(Statement):
    """Calls a function with things for its parameters."""

    def __init__(self, name, things):
        self.name = name
        self.things = _copied(things)

    def __eq__(self, other):
        return isinstance(other, Call) and self.name == other.name and self.things == other.things


class Give(Statement):
    """Offers a closure of a function to the world."""

    def __init__(self, name):
        self.name = name

    def __eq__(self, other):
        return isinstance(other, Give) and self.name == other.name


class Either(Statement):
    """Lets the world choose one of two lists of statements."""

    def __init__(self, one, other):
        self.one = _copied(one)
        self.other = _copied(other)

    def __eq__(self, other):
        return isinstance(other, Either) and self.one == other.one and self.other == other.other


class Function:
    """A function with its variables, its inner functions and its body."""

    def __init__(self, name, parameters=(), *, things=(), numbers=(), functions=(), body=()):
        self.name = name
        self.parameters = _copied(parameters)
        self.things = _copied(things)
        self.numbers = _copied(numbers)
        self._functions = _copied(functions)
        self.body = _copied(body)

    @property
    def functions(self):
        """The inner functions; a property, as a name that is one in any class is assigned in none."""
        return self._functions

    def __eq__(self, other):
        return (
            isinstance(other, Function)
            and self.name == other.name
            and self.parameters == other.parameters
            and self.things == other.things
            and self.numbers == other.numbers
            and self._functions == other._functions
            and self.body == other.body
        )
