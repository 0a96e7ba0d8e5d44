"""What several tests share: values of any kind, and the refusal of a main function."""

from heldby.errors import UnknownName
from heldby.programs import Program
from heldby.statements import Add, Call, Either, Function, Give, Show


def nested(depth):
    value = "a"
    for at in range(depth):
        value = [[value], (value,), {"a": value}][at % 3]
    return value


def any_values():
    """Values of any kind, none of which is a name."""
    return [
        None, True, False, 0, 1, -1, 7, 10 ** 99, -(10 ** 99), "", "A", "a b", "abcdefghi", (), ("a",), [], ["a"], {},
        {"a": "a"}, nested(20), Show("a"), Add("a", 1), Call("a", []), Give("a"), Either([], []), Function("a"),
        Program(Function("a")), UnknownName("a"),
    ]


def refusal(main):
    """The name and the fields of the error that a program with this main function raises, None if it raises none."""
    try:
        Program(main)
    except (ValueError, LookupError, OverflowError) as error:
        return (type(error).__name__, *vars(error).values())
    return None


def shows(name, many):
    return [Show(name)] * many


def nested_eithers(many):
    """So many Eithers, each one in the one around it, in its first and its second list by turns."""
    statement = Either([], [])
    for at in range(many - 1):
        statement = Either([statement], []) if at % 2 else Either([], [statement])
    return statement


def unknown_points(known):
    """Values of any kind that are none of the known points; some of them look like one."""
    looks = [(True,), (False,), (1, False), (0, True, 0), (-1,), (99,), [0], [], [()], ((),), ((0,),), ("0",), (None,)]
    looks += [([],), ({},), (10 ** 99,), (0, [0]), "()", "0", "entry", 0, (0, 0, 0, 0, 0), (0, 2), (0, 0, 0, 7)]
    values = any_values() + looks + [list(point) for point in known]
    return [value for value in values if not (is_tuple_of_integers(value) and value in known)]


def is_tuple_of_integers(value):
    return isinstance(value, tuple) and all(type(part) is int for part in value)
