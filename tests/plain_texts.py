"""Texts by plain means: a writer of any tree of functions, and all beginnings of texts of a small grammar.

A part of a grammar is a function of a number k; it tells a set of tuples (lines, whole): the first k lines at most of
all that it may be, and whether these are the whole of it.
"""

import re

from heldby.statements import Add, Call, Either, Give, Show

NAME = r"[a-z]{1,8}"
INTEGER = r"(0|[1-9][0-9]{0,30})"


def body_lines(statements, level):
    lines = []
    for row in statements:
        ahead = "  " * level
        if isinstance(row, Either):
            lines += [f"{ahead}either", *body_lines(row.one, level + 1), f"{ahead}or"]
            lines += [*body_lines(row.other, level + 1), f"{ahead}end"]
        if isinstance(row, Show):
            lines.append(f"{ahead}show {row.name}")
        if isinstance(row, Add):
            lines.append(f"{ahead}add {row.name} {row.many}")
        if isinstance(row, Call):
            lines.append(f"{ahead}call " + " ".join((row.name, *row.things)))
        if isinstance(row, Give):
            lines.append(f"{ahead}give {row.name}")
    return lines


def function_lines(function, level=0):
    ahead = "  " * level
    lines = [f"{ahead}function " + " ".join((function.name, *function.parameters))]
    for word in ("things", "numbers"):
        if getattr(function, word):
            lines.append(f"{ahead}  {word} " + " ".join(getattr(function, word)))
    for inner in function.functions:
        lines += function_lines(inner, level + 1)
    return lines + body_lines(function.body, level + 1)


def text_of(function):
    return "\n".join(function_lines(function))


def line(text):
    return lambda k: {((text,), True)} if k else {((), False)}


def sequence(*parts):
    def told(k):
        found = {((), True)}
        for part in parts:
            longer = set()
            for lines, whole in found:
                if not whole:
                    longer.add((lines, False))
                    continue
                for more, ends in part(k - len(lines)):
                    longer.add((lines + more, ends))
            found = longer
        return found
    return told


def either(*parts):
    return lambda k: {row for part in parts for row in part(k)}


def perhaps(part):
    return either(lambda k: {((), True)}, part)


def several(part):
    """None or more of a part, each of which has a line at least."""
    def told(k):
        found, fresh = {((), True)}, {((), True)}
        while fresh:
            longer = set()
            for lines, whole in fresh:
                if whole:
                    longer |= {(lines + more, ends) for more, ends in part(k - len(lines)) if more or not ends}
            fresh = longer - found
            found |= fresh
        return found
    return told


def block(level, deepest):
    """A function, with one form of each line, in which levels go down to the deepest one."""
    ahead = "  " * (level + 1)
    parts = [line("  " * level + "function a")]
    if level < deepest:
        parts += [perhaps(line(f"{ahead}things a")), perhaps(line(f"{ahead}numbers a"))]
        parts += [several(lambda k: block(level + 1, deepest)(k)), several(lambda k: statement(level + 1, deepest)(k))]
    return sequence(*parts)


def statement(level, deepest):
    ahead = "  " * level
    single = line(f"{ahead}show a")
    inner = several(lambda k: statement(level + 1, deepest)(k)) if level < deepest else sequence()
    return either(single, sequence(line(f"{ahead}either"), inner, line(f"{ahead}or"), inner, line(f"{ahead}end")))


LAYOUT = sequence(line("layout"), several(line("bundle a b")), perhaps(line("linked a")), perhaps(line("opened a")))
TURN = sequence(line("turn 0"), *[perhaps(line(f"  {word} 0")) for word in ("choices", "takes", "drops")])
WORLD = sequence(line("world"), several(TURN))
CLOSURES = ("closure a b", "closure b a")
FRAMES = ("frame a entry b", "frame a 0 b", "frame b entry b")


def keeper(k):
    """Beginnings of keepers: no closure and no frame stands twice."""
    rows = sequence(line("keeper"), several(either(*map(line, CLOSURES))), several(either(*map(line, FRAMES))))(k)
    return {(lines, whole) for lines, whole in rows if len(set(lines)) == len(lines)}


def beginnings(part, k):
    """All tuples of at most k lines with which what a part may be begins, and the whole ones among them."""
    begun, whole = set(), set()
    for many in range(1, k + 1):
        for lines, ends in part(many):
            begun.add(lines)
            if ends:
                whole.add(lines)
    return {lines for lines in begun if lines}, whole


# What a single line may be, without the spaces ahead of it.
FORMS = {
    "program": [rf"function {NAME}( {NAME})*", rf"things {NAME}( {NAME})*", rf"numbers {NAME}( {NAME})*",
        rf"show {NAME}", rf"add {NAME} {INTEGER}", rf"call {NAME}( {NAME})*", rf"give {NAME}", "either", "or", "end"],
    "layout": ["layout", rf"bundle {NAME}( {NAME})*", rf"linked {NAME}( {NAME})*", rf"opened {NAME}( {NAME})*"],
    "keeper": ["keeper", rf"closure {NAME}( {NAME})+", rf"frame {NAME} (entry|{INTEGER}(\.{INTEGER})*)( {NAME})+"],
    "world": ["world", rf"turn {INTEGER}( {INTEGER})*", rf"(choices|takes|drops) {INTEGER}( {INTEGER})*"],
}


def is_line(kind, text):
    """Whether a text without spaces ahead of it is a line of a kind of text."""
    return any(re.fullmatch(form, text, re.ASCII) for form in FORMS[kind])
