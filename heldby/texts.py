"""Texts of programs, layouts, keepers and worlds, and the table of what keepers keep."""

from heldby.errors import OutOfRange, UnknownName, UnknownPoint
from heldby.keepers import check_one_program, points
from heldby.lines import program_lines, written
from heldby.names import is_integer


def write_program(program):
    """The text of a program."""
    return "\n".join([row[0] for row in program_lines(program)])


def write_layout(layout):
    """The text of a layout."""
    lines = ["layout"] + [written(0, ["bundle", *bundle]) for bundle in layout.bundles]
    for word, names in (("linked", layout.linked), ("opened", layout.opened)):
        if names:
            lines.append(written(0, [word, *names]))
    return "\n".join(lines)


def write_keeper(keeper):
    """The text of what a keeper keeps."""
    program = keeper.program
    lines = ["keeper"]
    for name in program.functions:
        if keeper.closure(name):
            lines.append(written(0, ["closure", name, *keeper.closure(name)]))
    for name in program.functions:
        for point in points(program, name):
            kept = keeper.frame(name, point)
            if kept:
                lines.append(written(0, ["frame", name, _written_point(point), *kept]))
    return "\n".join(lines)


def _written_point(point):
    return ".".join([str(part) for part in point]) if point else "entry"


def write_world(world):
    """The text of a world."""
    lines = ["world"]
    for closure, things, choices, takes, drops in world:
        lines.append(written(0, ["turn", closure, *things]))
        for word, numbers in (("choices", choices), ("takes", takes), ("drops", drops)):
            if numbers:
                lines.append(written(1, [word, *numbers]))
    return "\n".join(lines)


def line_of(program, name, point):
    """The number of the line of the text of the program in which a point stands."""
    if name not in program:
        raise UnknownName(name)
    if not program.is_point(name, point):
        raise UnknownPoint(point)
    return [row[1:] for row in program_lines(program)].index((name, point))


def point_at(program, line):
    """The tuple (name, point) of the point in a line of the text of the program, None if there is none."""
    lines = program_lines(program)
    if not is_integer(line, 0, len(lines) - 1):
        raise OutOfRange(line)
    _, name, point = lines[line]
    return None if name is None else (name, point)


def keeper_table(keeper, *others):
    """A row for each line of the text of the program, with what the keepers keep there."""
    for other in others:
        check_one_program(keeper, other)
    lines = program_lines(keeper.program)
    columns = [_column([row[0] for row in lines])]
    for told in (keeper, *others):
        columns.append(_column([_cell(told, row[1], row[2]) for row in lines]))
    rows = [" | ".join([column[at] for column in columns]) for at in range(len(lines))]
    return "\n".join([row.rstrip(" ") for row in rows])


def _column(cells):
    """The cells, filled with spaces to the length of the longest one."""
    width = max([len(cell) for cell in cells])
    return [cell.ljust(width) for cell in cells]


def _cell(keeper, name, point):
    """What the keeper keeps at a point, with what its closures keep at the entry of a function other than main."""
    if name is None:
        return ""
    kept = " ".join(keeper.frame(name, point))
    if point != () or keeper.program.parent(name) is None:
        return kept
    closure = "[" + " ".join(keeper.closure(name)) + "]"
    return closure + " " + kept if kept else closure
