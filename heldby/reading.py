"""Reading texts of programs, layouts, keepers and worlds."""

from heldby.errors import (
    DuplicateName, Endless, InvalidProgram, TooLong, TooMany, UnknownName, Unreadable, WrongCount, WrongKind,
)
from heldby.forms import words_of
from heldby.keepers import Told
from heldby.layouts import Layout
from heldby.programs import Program
from heldby.readers import KeeperReader, LayoutReader, ProgramReader, WorldReader


def read_program(text):
    """The Program that is written in a text."""
    reader = ProgramReader()
    lines = _take_lines(reader, text)
    if not reader.is_whole():
        raise Unreadable(lines)
    return Program(reader.main_function())


def read_layout(program, text):
    """The Layout of a program that is written in a text."""
    reader = LayoutReader()
    _take_lines(reader, text)
    return Layout(program, bundles=reader.bundled, linked=reader.links, opened=reader.opens)


def read_keeper(program, text):
    """The keeper of a program that is written in a text."""
    reader = KeeperReader()
    _take_lines(reader, text)
    return Told(program, reader.closures, reader.frames)


def read_world(text):
    """The turns that are written in a text, of whatever program."""
    reader = WorldReader()
    _take_lines(reader, text)
    return reader.turns()


def _take_lines(reader, text):
    """Gives all lines to a reader; how many there are. Raises Unreadable for the first one that it does not take."""
    if not isinstance(text, str):
        raise Unreadable(0)
    lines = text.split("\n")
    for at, line in enumerate(lines):
        row = words_of(line)
        if row is None or not reader.takes(row[0], row[1]):
            raise Unreadable(at)
    return len(lines)


def is_program_text(value):
    """Whether any value is a text that read_program reads."""
    try:
        read_program(value)
    except (
        Unreadable, InvalidProgram, DuplicateName, UnknownName, WrongKind, WrongCount, Endless, TooMany, TooLong,
    ):
        return False
    return True
