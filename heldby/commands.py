"""The lines that a desk answers: their words, and what these tell."""

from heldby.forms import is_integer_word, point_of
from heldby.names import is_name

# What stands behind each word: single names, an integer, a point, and at last "names" for any number of them, or
# "perhaps" for an integer that may be left out.
FORMS = {
    "bundle": ("name", "name", "names"),
    "alone": ("name",),
    "link": ("name",),
    "unlink": ("name",),
    "open": ("name",),
    "shut": ("name",),
    "weigh": ("name", "integer"),
    "unweigh": ("name",),
    "rename": ("name", "name"),
    "prune": ("names",),
    "lift": ("name", "name", "name"),
    "sink": ("name", "name"),
    "undo": (),
    "redo": (),
    "improve": ("perhaps",),
    "mend": (),
    "program": (),
    "layout": (),
    "keeper": (),
    "table": (),
    "price": (),
    "growth": (),
    "mends": (),
    "closure": ("name",),
    "frame": ("name", "point"),
}


def command_of(line):
    """A tuple (is_trial, word, told) of any value that is such a line, None of others.

    told is a list of names, integers and points.
    """
    if not isinstance(line, str):
        return None
    words = line.split(" ")
    is_trial = words[0] == "try"
    if is_trial:
        words = words[1:]
    if not words or words[0] not in FORMS:
        return None
    told = _told(FORMS[words[0]], words[1:])
    return None if told is None else (is_trial, words[0], told)


def _told(kinds, words):
    """What the words behind the first one tell, None if they are not of these kinds."""
    if "names" in kinds:
        kinds = (*kinds[:-1], *["name" for _ in words[len(kinds) - 1:]])
    if "perhaps" in kinds:
        kinds = ("integer",) if words else ()
    if len(words) != len(kinds):
        return None
    told = [_value(kind, word) for kind, word in zip(kinds, words)]
    return None if None in told else told


def _value(kind, word):
    """The value of a word of a kind, None if it is not of that kind."""
    if kind == "point":
        return point_of(word)
    if kind == "integer":
        return int(word) if is_integer_word(word) else None
    return word if is_name(word) else None
