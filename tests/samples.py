"""What several tests share: values of any kind, and the refusal of a main function."""

from heldby.errors import UnknownName
from heldby.programs import Program
from heldby.statements import Add, Call, Either, Function, Give, Show


def nested(depth):
    value = "a"
    for at in range(depth):
        value = [[value], (value,), {"a": value}][at % 3]
    return value


def any_values():
    """Values of any kind, none of which is a name."""
    return [
        None, True, False, 0, 1, -1, 7, 10 ** 99, -(10 ** 99), "", "A", "a b", "abcdefghi", (), ("a",), [], ["a"], {},
        {"a": "a"}, nested(20), Show("a"), Add("a", 1), Call("a", []), Give("a"), Either([], []), Function("a"),
        Program(Function("a")), UnknownName("a"),
    ]


def refusal(main):
    """The name and the fields of the error that a program with this main function raises, None if it raises none."""
    try:
        Program(main)
    except (ValueError, LookupError, OverflowError) as error:
        return (type(error).__name__, *vars(error).values())
    return None


def shows(name, many):
    return [Show(name)] * many
