"""The lines of texts: their levels and words, and what words may be."""

from heldby.names import is_name

DIGITS = "0123456789"
LONGEST_INTEGER = 31
DEEPEST = 99


def words_of(line):
    """A tuple (level, words) of a line, None if it has no level, or words without single spaces between them."""
    spaces = len(line) - len(line.lstrip(" "))
    words = line[spaces:].split(" ")
    if spaces % 2 or spaces > 2 * DEEPEST or "" in words:
        return None
    return (spaces // 2, words)


def are_names(words, least):
    """Whether there are so many words at least, and all are names."""
    return len(words) >= least and all([is_name(word) for word in words])


def is_integer_word(word):
    """Whether a word is an integer of at most 31 digits, without leading zeros."""
    if not 1 <= len(word) <= LONGEST_INTEGER or (word[0] == "0" and len(word) > 1):
        return False
    return all([digit in DIGITS for digit in word])


def are_integers(words, least):
    """Whether there are so many words at least, and all are integers."""
    return len(words) >= least and all([is_integer_word(word) for word in words])


def integers_of(words):
    """The integers that words are, as a tuple."""
    return tuple([int(word) for word in words])


def point_of(word):
    """The point that a word is, None if it is none."""
    if word == "entry":
        return ()
    parts = word.split(".")
    return integers_of(parts) if are_integers(parts, 1) else None
