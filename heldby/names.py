"""What a name is, and what an integer is."""

LONGEST = 8


def is_name(value):
    """Whether any value is a string of 1 to 8 letters from a to z."""
    if not isinstance(value, str) or not 1 <= len(value) <= LONGEST:
        return False
    return value.isascii() and value.isalpha() and value.islower()


def is_plain_integer(value):
    """Whether any value is an integer, and no bool."""
    return isinstance(value, int) and not isinstance(value, bool)


def is_integer(value, least, most):
    """Whether any value is an integer, and no bool, from least to most."""
    return is_plain_integer(value) and least <= value <= most
