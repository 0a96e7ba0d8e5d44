import random
import time
import unittest

from heldby.errors import (
    DuplicateName, Endless, InvalidBundle, InvalidProgram, TooLong, TooMany, UnknownName, UnknownPoint, Unreadable,
    WrongCount, WrongKind,
)
from heldby.keepers import Plain, Told
from heldby.layouts import Layout
from heldby.programs import Program
from heldby.reading import is_program_text, read_keeper, read_layout, read_program, read_world
from heldby.statements import Either, Function, Show
from heldby.texts import write_keeper, write_layout, write_program, write_world
from tests import plain_texts
from tests.makers import Maker, RichMaker, made_keeper, made_layout, made_world, programs
from tests.samples import any_values, refusal
from tests.test_texts import SAMPLE, sample

KINDS = ("program", "layout", "keeper", "world")
# Errors of what is written behind the form.
OTHERS = (DuplicateName, Endless, InvalidBundle, InvalidProgram, TooLong, TooMany, UnknownName, UnknownPoint,
    WrongCount,
    WrongKind)


def small():
    return read_program("function a\n  things b\n  function c\n    show b\n  give c")


def reader(kind):
    """What reads a kind of text."""
    return {
        "program": read_program, "layout": lambda text: read_layout(small(), text),
        "keeper": lambda text: read_keeper(small(), text), "world": read_world,
    }[kind]


def unreadable(kind, text):
    """The line at which a text cannot be read, None if it is of the form."""
    try:
        reader(kind)(text)
    except Unreadable as error:
        assert vars(error) == {"line": error.line} and type(error.line) is int
        return error.line
    except OTHERS:
        pass
    return None


class BackAndForthTest(unittest.TestCase):
    def test_what_is_written_is_read(self):
        for at, program in enumerate(programs(120)):
            chance = random.Random(at)
            self.assertEqual(read_program(write_program(program)), program)
            self.assertIs(is_program_text(write_program(program)), True)
            layout = made_layout(chance, program)
            self.assertEqual(read_layout(program, write_layout(layout)).choice(), layout.choice())
            keeper = made_keeper(chance, program)
            told = read_keeper(program, write_keeper(keeper))
            self.assertEqual(told, keeper)
            self.assertIsInstance(told, Told)
            world = made_world(chance, program, 3)
            self.assertEqual(read_world(write_world(world)), world)
            self.assertIsInstance(read_world(write_world(world)), list)

    def test_names_of_arguments(self):
        self.assertEqual(read_program(text=SAMPLE), sample())
        self.assertEqual(read_layout(program=sample(), text="layout\nlinked f").linked, ("f",))
        self.assertEqual(read_keeper(program=sample(), text="keeper"), Told(sample(), {}, {}))
        self.assertEqual(read_world(text="world"), [])
        self.assertIs(is_program_text(value=SAMPLE), True)

    def test_names_and_lines_in_any_order(self):
        text = "layout\nbundle b a\nlinked g f g\nopened g f f"
        program = read_program("function main a b c d\n" + "".join(
            f"  function {name}\n    show a\n    show b\n    show c\n    show d\n" for name in "fg")
            + "  give f\n  give g")
        self.assertEqual(read_layout(program, text).choice(), ((("a", "b"),), ("f", "g"), ("f", "g")))
        self.assertEqual(read_layout(program, "layout\nbundle d c\nbundle b a").bundles, (("a", "b"), ("c", "d")))
        self.assertEqual(write_layout(read_layout(program, text)), "layout\nbundle a b\nlinked f g\nopened f g")
        text = "keeper\nclosure g b a b\nclosure f a\nframe f 1 b\nframe main entry d a\nframe f 0 a a\nframe f entry c"
        told = Told(program, {"f": ["a"], "g": ["a", "b"]},
            {("main", ()): ["a", "d"], ("f", ()): ["c"], ("f", (0,)): ["a"], ("f", (1,)): ["b"]})
        self.assertEqual(read_keeper(program, text), told)
        text = "world\nturn 3 2 1\n  choices 1 5 0\n  takes 3 1 3\n  drops 9 0\nturn 0\nturn 0\n  drops 1"
        self.assertEqual(read_world(text),
            [(3, (2, 1), (1, 5, 0), (3, 1, 3), (9, 0)), (0, (), (), (), ()), (0, (), (), (), (1,))])

    def test_words_of_the_form_are_names_too(self):
        # Only the first word of a line tells what it is.
        text = "function function show\n  things things end\n  function either\n    show or\n  show show\n  give either"
        self.assertEqual(unreadable("program", text), None)
        program = read_program("function function show\n  things things end\n  function either or\n    show or\n  "
            "call either end\n  show show\n  either\n    show end\n  or\n  end")
        self.assertEqual(program.functions, ("function", "either"))
        self.assertEqual(program.main.body[2], Either([Show("end")], []))
        told = read_keeper(program,
            "keeper\nclosure either end things\nframe function entry show\nframe either entry or")
        self.assertEqual(told.frame("either", ()), ("or",))
        self.assertEqual(read_layout(program, "layout\nlinked either\nopened either").linked, ("either",))


class GrammarTest(unittest.TestCase):
    """Each beginning of a text of a small grammar, with each line behind it."""

    def check(self, kind, part, lines, most):
        begun, whole = plain_texts.beginnings(part, most)
        self.assertGreater(len(begun), 15)
        looked = 0
        for rows in {lines_[:-1] for lines_ in begun} | begun:
            if len(rows) == most:
                continue
            for line in lines:
                more = (*rows, line)
                if more in whole:
                    want = None
                elif more in begun:
                    want = len(more)
                else:
                    want = len(rows)
                self.assertEqual(unreadable(kind, "\n".join(more)), want, more)
                # Lines behind the first one that does not fit do not count.
                if want == len(rows):
                    self.assertEqual(unreadable(kind, "\n".join([*more, lines[0], "", "?"])), want)
                looked += 1
        self.assertGreater(looked, 100)

    def test_programs(self):
        words = ("function a", "things a", "numbers a", "show a", "either", "or", "end")
        lines = ["  " * level + word for level in range(5) for word in words]
        self.check("program", plain_texts.block(0, 2), [line for line in lines if not line.startswith("  " * 3)], 5)
        self.check("program", plain_texts.block(0, 4), lines, 4)

    def test_layouts(self):
        words = ("layout", "bundle a b", "linked a", "opened a")
        self.check("layout", plain_texts.LAYOUT, [*words, *[f"  {word}" for word in words]], 6)

    def test_keepers(self):
        words = ("keeper", *plain_texts.CLOSURES, *plain_texts.FRAMES)
        self.check("keeper", plain_texts.keeper, [*words, *[f"  {word}" for word in words]], 6)

    def test_worlds(self):
        words = ("world", "turn 0", "choices 0", "takes 0", "drops 0")
        self.check("world", plain_texts.WORLD, ["  " * level + word for level in range(3) for word in words], 6)

    def test_the_examples(self):
        program = read_program("function main\n  things a b\n  function f x\n    show a\n  call f b\n  give f")
        self.assertEqual(unreadable("program", "function main\n  either\n    show a\n  or"), 4)
        self.assertEqual(unreadable("program", "function main\n  show a\n  things a"), 2)
        with self.assertRaises(Unreadable) as caught:
            read_keeper(program, "keeper\nframe main 0 a\nclosure f a")
        self.assertEqual(vars(caught.exception), {"line": 2})


class LinesTest(unittest.TestCase):
    def ahead(self, kind, word):
        """Lines behind which a line with a word may stand, and its level."""
        if kind == "program":
            tails = {"function": [], "or": ["  either"], "end": ["  either", "  or"]}
            return ["function a", *tails.get(word, [])], 1
        if word in ("choices", "takes", "drops"):
            return ["world", "turn 0"], 1
        return ([] if word == kind else [kind]), 0

    def check(self, kind, line, word):
        """A line without spaces ahead of it, behind lines behind which its word may stand."""
        rows, level = self.ahead(kind, word)
        got = unreadable(kind, "\n".join([*rows, "  " * level + line]))
        if plain_texts.is_line(kind, line) and line.split(" ")[0] == word:
            more = {"either": len(rows) + 1, "or": len(rows) + 1}.get(word) if kind == "program" else None
            self.assertEqual(got, more, line)
        else:
            self.assertEqual(got, len(rows), line)

    LINES = {
        "program": ["function b", "function b c", "things b", "things b c d", "numbers b", "show b", "add b 0",
            "add b 17",
            "call b", "call b c d", "give b", "either", "or", "end"],
        "layout": ["layout", "bundle b", "bundle b c", "linked b", "opened b c"],
        "keeper": ["keeper", "closure b c", "closure b c d", "frame b entry c", "frame b 0 c", "frame b 0.1.23 c d"],
        "world": ["world", "turn 0", "turn 3 0 17", "choices 0", "choices 1 0", "takes 5", "drops 2 3"],
    }

    def bent(self, line):
        """What a line may become by a small change."""
        words = line.split(" ")
        others = ["", "b", "b c", "B", "ninechars", "eightcha", "0", "00", "01", "-1", "+1", "1_0", "1.0", "0.", ".0",
            "0..1",
            "entry", "entry.0", "0.entry", "entry.", "b1", "\u00e9", "\u0661", "\u00b2", "a\u0301", "\uff11", "\uff41",
                "9" * 31,
            "9" * 32, "0.0.00", f"0.{'9' * 31}.1", f"0.{'9' * 32}", "1e3", "0x1", "\t", "\r", "a\r", "\u00a0", "a\tb",
                "\x0b", "a\x0cb"]
        for at in range(len(words) + 1):
            for other in others:
                yield words[:at] + [other] + words[at:]
                if at < len(words):
                    yield words[:at] + [other] + words[at + 1:]
            if at < len(words):
                yield words[:at] + words[at + 1:]
                yield words[:at] + [words[at]] + words[at:]
                yield words[:at] + [words[at].upper()] + words[at + 1:]
                yield words[:at] + [words[at][:-1]] + words[at + 1:]
                yield words[:at] + [words[at] + "s"] + words[at + 1:]
            if at > 1:
                yield words[:at - 2] + [words[at - 1], words[at - 2]] + words[at:]

    def test_words(self):
        for kind in KINDS:
            for line in self.LINES[kind]:
                word = line.split(" ")[0]
                self.check(kind, line, word)
                for words in self.bent(line):
                    if words and words[0] not in [row.split(" ")[0] for row in self.LINES[kind] if row != line] or \
                        words and words[0] == word:
                        self.check(kind, " ".join(words), word)

    def test_other_words(self):
        for kind in KINDS:
            for other in KINDS:
                for line in self.LINES[other]:
                    if other != kind:
                        rows = [] if kind != "program" else ["function a"]
                        self.assertEqual(unreadable(kind, "\n".join([*rows, "  " * len(rows) + line])), len(rows))

    def test_spaces(self):
        for kind in KINDS:
            for line in self.LINES[kind]:
                rows, level = self.ahead(kind, line.split(" ")[0])
                for spaces in range(0, 9):
                    got = unreadable(kind, "\n".join([*rows, " " * spaces + line]))
                    if spaces % 2 or spaces > 2 * level + 2:
                        self.assertEqual(got, len(rows))
                    if spaces == 2 * level:
                        self.assertNotEqual(got, len(rows))
                for bent in (line + " ", line.replace(" ", "  "), line.replace(" ", "\t"), line + "\t", "\t" + line):
                    if bent != line:
                        self.assertEqual(unreadable(kind, "\n".join([*rows, "  " * level + bent])), len(rows))

    def test_empty_lines(self):
        for kind, first in (("program", "function a"), ("layout", "layout"), ("keeper", "keeper"), ("world", "world")):
            self.assertIsNone(unreadable(kind, first))
            for text, line in (("", 0), (" ", 0), ("  ", 0), ("\n", 0), ("\n" + first, 0), (first + "\n", 1),
                (first + "\n\n", 1), (first + "\n  ", 1), (first + "\r", 0), (first + "\r\n", 0), (" " + first, 0),
                ("  " + first, 0), ("\ufeff" + first, 0), (first + "\x85", 0), (first + "\n" + first, 1)):
                self.assertEqual(unreadable(kind, text), line, repr(text))

    def test_values_that_are_no_text(self):
        for value in any_values():
            if isinstance(value, str):
                continue
            for kind in KINDS:
                self.assertEqual(unreadable(kind, value), 0)
            self.assertIs(is_program_text(value), False)
        for value in (b"world", ["world"], ("layout",)):
            self.assertEqual([unreadable(kind, value) for kind in KINDS], [0] * 4)

    def test_levels(self):
        names = [first + second for second in "abcdefghij" for first in "abcdefghij"]
        lines = ["  " * level + f"function {name}" for level, name in enumerate(names)]
        self.assertIsNone(unreadable("program", "\n".join(lines)))
        for more in ("  " * 100 + "function z", "  " * 100 + "show a", "  " * 100 + "things z", "  " * 101 + "show a"):
            self.assertEqual(unreadable("program", "\n".join([*lines, more])), 100)
        self.assertIsNone(unreadable("program", "\n".join([*lines, "  " * 99 + "show a"])))
        self.assertEqual(unreadable("program", "\n".join([*lines, "  " * 99 + "either"])), 101)
        for more in (["or"], ["or", "end"]):
            rows = [*lines, "  " * 99 + "either", *["  " * 99 + word for word in more]]
            self.assertEqual(unreadable("program", "\n".join(rows)), 102 if len(more) == 1 else None)
        rows = [*lines, "  " * 99 + "either", "  " * 100 + "show a"]
        self.assertEqual(unreadable("program", "\n".join(rows)), 101)
        eithers = ["function a", *["  " * level + "either" for level in range(1, 100)]]
        closed = [row for level in range(99, 0, -1) for row in ("  " * level + "or", "  " * level + "end")]
        self.assertEqual(unreadable("program", "\n".join(eithers)), 100)
        self.assertEqual(unreadable("program", "\n".join([*eithers, "  " * 100 + "either"])), 100)
        for many in range(0, len(closed), 7):
            self.assertEqual(unreadable("program", "\n".join(eithers + closed[:many])), 100 + many)
        with self.assertRaises(TooMany):
            read_program("\n".join(eithers + closed))
        # Sixty Eithers in one another are as many statements as a program may have.
        row = []
        for _ in range(60):
            row = [Either([], row)]
        self.assertEqual(read_program("\n".join([*eithers[:61], *closed[-120:]])),
            Program(Function("a", body=self.turned(row))))

    def turned(self, rows):
        """The same Eithers with their lists exchanged."""
        return [Either(self.turned(row.other), row.one) for row in rows]

    def test_doubled_keys_of_keepers(self):
        for text, line in (
            ("closure a b\nclosure a c", 2), ("closure a b\nclosure b c\nclosure a b", 3),
                ("closure c b\nclosure d b", None),
            ("frame a 0 b\nframe a 0 c", 2), ("frame a 0 b\nframe b 0 c\nframe a 0 b", 3),
                ("frame a 0 b\nframe a 1 b", None),
            ("frame a entry b\nframe a entry b", 2), ("frame a 0.1 b\nframe a 0.1.0 b\nframe a 0 b", None),
            ("closure a b\nframe a entry b\nclosure b c", 3), ("closure a b\nframe a entry b\nframe a 0 b", None),
        ):
            self.assertEqual(unreadable("keeper", "keeper\n" + text), line, text)

    def test_integers(self):
        for word, is_one in (("0", True), ("9" * 31, True), ("9" * 32, False), ("1" + "0" * 30, True), ("01", False),
            ("00", False), ("", False), ("-0", False), ("+1", False), ("1_1", False), ("\u0661", False), ("1.", False)):
            want = [None, None, None] if is_one else [1, 1, 1]
            self.assertEqual([unreadable("world", f"world\nturn {word}"), unreadable("world", f"world\nturn 0 {word}"),
                unreadable("program", f"function a\n  add b {word}")], want, word)
        self.assertEqual(read_world(f"world\nturn {'9' * 31} {'9' * 31}"),
            [(10 ** 31 - 1, (10 ** 31 - 1,), (), (), ())])


class CutTextsTest(unittest.TestCase):
    """Lines of texts left out, doubled and exchanged."""

    def follows(self, rows, at):
        """Whether a program may go on with the line with this index, behind those ahead of it."""
        return unreadable("program", "\n".join(rows[:at + 1])) in (None, at + 1)

    def test_the_told_line_is_the_first_one(self):
        for at, program in enumerate(programs(40)):
            chance = random.Random(at)
            rows = write_program(program).split("\n")
            for _ in range(15):
                bent = list(rows)
                kind = chance.randrange(4)
                index = chance.randrange(len(bent))
                if kind == 0:
                    del bent[index]
                if kind == 1:
                    bent.insert(chance.randrange(len(bent) + 1), bent[index])
                if kind == 2:
                    other = chance.randrange(len(bent))
                    bent[index], bent[other] = bent[other], bent[index]
                if kind == 3:
                    bent[index] = chance.choice(["  " + bent[index], bent[index][2:], bent[index][1:]])
                line = unreadable("program", "\n".join(bent))
                fits = [self.follows(bent, place) for place in range(len(bent))]
                if line is None or line == len(bent):
                    self.assertTrue(all(fits))
                else:
                    self.assertEqual(fits.index(False), line)
                    self.assertFalse(any(fits[line:]))

    def test_cut_texts(self):
        rows = SAMPLE.split("\n")
        for many in range(1, len(rows)):
            opened = [row.strip() for row in rows[:many]]
            is_open = opened.count("either") > opened.count("end")
            got = unreadable("program", "\n".join(rows[:many]))
            self.assertEqual(got, many if is_open else None)


class ErrorsBehindTest(unittest.TestCase):
    def test_errors_of_programs(self):
        kinds = {}
        for seed in range(250):
            for made in (Maker(seed), RichMaker(seed)):
                main = self.spoiled(random.Random(seed), made.main())
                want = refusal(main)
                text = plain_texts.text_of(main)
                kinds[want and want[0]] = kinds.get(want and want[0], 0) + 1
                self.assertIs(is_program_text(text), want is None)
                if want is None:
                    self.assertEqual(read_program(text), Program(main))
                    continue
                with self.assertRaises(OTHERS) as caught:
                    read_program(text)
                self.assertEqual((type(caught.exception).__name__, *vars(caught.exception).values()), want)
        self.assertGreater(len(kinds), 5)

    def spoiled(self, chance, main):
        """The main function with a name exchanged, in some cases."""
        if chance.random() < 0.5:
            return main
        text = plain_texts.text_of(main)
        words = sorted({word for word in text.replace("\n", " ").split(" ") if word.isalpha()} - {
            "function", "things", "numbers", "show", "add", "call", "give", "either", "or", "end"})
        one, other = chance.choice(words), chance.choice([*words, "nobody"])
        rows = text.split("\n")
        index = chance.randrange(len(rows))
        rows[index] = " ".join(other if word == one else word for word in rows[index].split(" "))
        return self.tree(rows)

    def tree(self, rows):
        """The tree of a text that is of the form, without looking at it: what read_program gives to Program."""
        from unittest import mock
        with mock.patch("heldby.reading.Program", lambda main: main):
            return read_program("\n".join(rows))

    def test_errors_of_each_kind(self):
        for text, kind, fields in (
            ("function a\n  add b 0", InvalidProgram, {"place": "a"}),
                ("function a\n  add b 1001", InvalidProgram, {"place": "a"}),
            ("function a a", DuplicateName, {"value": "a"}),
                ("function a\n  things b b", DuplicateName, {"value": "b"}),
            ("function a\n  show b", UnknownName, {"value": "b"}),
                ("function a\n  give a", UnknownName, {"value": "a"}),
            ("function a b\n  add b 1", WrongKind, {"value": "b"}),
            ("function a\n  function b c\n  call b", WrongCount, {"value": "b"}),
            ("function a\n  function b\n    call b", Endless, {"value": "b"}),
            ("\n".join("  " * level + f"function {letter}" for level, letter in enumerate("abcdef")), TooMany,
                {"limit": 5}),
            ("function a\n" + "\n".join(["  give b"] * 5), UnknownName, {"value": "b"}),
        ):
            with self.assertRaises(kind) as caught:
                read_program(text)
            self.assertEqual(vars(caught.exception), fields)
            self.assertIs(is_program_text(text), False)
        slow = "function a\n  function b\n" + "    show c\n" * 20 + "\n".join(["  call b"] * 6)
        slow = slow.replace("function a\n", "function a c\n")
        with self.assertRaises(TooLong) as caught:
            read_program(slow)
        self.assertEqual(vars(caught.exception), {"limit": 100})
        self.assertIs(is_program_text(slow), False)

    def test_errors_of_layouts(self):
        program = read_program("function m a b c\n  function f\n    show a\n    show b\n  function u\n  give f")
        for text, kind, fields in (
            ("bundle a", InvalidBundle, {"index": 0}), ("bundle a b\nbundle b a", InvalidBundle, {"index": 1}),
            ("bundle a c", InvalidBundle, {"index": 0}), ("bundle a a", InvalidBundle, {"index": 0}),
            ("bundle a b\nbundle x y\nlinked z", InvalidBundle, {"index": 1}),
                ("linked f u", UnknownName, {"value": "u"}),
            ("linked m", UnknownName, {"value": "m"}), ("linked f\nopened f x", UnknownName, {"value": "x"}),
            ("linked y\nopened x", UnknownName, {"value": "y"}),
        ):
            with self.assertRaises(kind) as caught:
                read_layout(program, "layout\n" + text)
            self.assertEqual(vars(caught.exception), fields)
            with self.assertRaises(Unreadable) as caught:
                read_layout(program, "layout\n" + text + "\nlayout")
            self.assertEqual(caught.exception.line, text.count("\n") + 2)

    def test_errors_of_keepers(self):
        program = read_program("function m a b\n  function f x\n    show a\n  function u y\n  give f")
        for text, kind, value in (
            ("closure m a", UnknownName, "m"), ("closure f a\nclosure z a", UnknownName, "z"),
                ("closure f x", UnknownName, "x"),
            ("closure f z\nframe f 1 a", UnknownPoint, ("f", (1,))), ("frame f 0.0 a", UnknownPoint, ("f", (0, 0))),
            ("frame z entry a", UnknownPoint, ("z", ())), ("frame f entry y", UnknownName, "y"),
            ("closure f a\nframe f 0 x z", UnknownName, "z"),
                (f"frame f {10 ** 30} a", UnknownPoint, ("f", (10 ** 30,))),
        ):
            with self.assertRaises(kind) as caught:
                read_keeper(program, "keeper\n" + text)
            self.assertEqual(vars(caught.exception), {"value": value})
            with self.assertRaises(Unreadable):
                read_keeper(program, "keeper\n" + text + "\n")
        self.assertEqual(read_keeper(program, "keeper\nclosure u a\nframe u entry y a").closure("u"), ("a",))

    def test_texts_by_chance(self):
        """No other error for any text."""
        words = ["function", "things", "numbers", "show", "add", "call", "give", "either", "or", "end", "layout",
            "bundle",
            "linked", "opened", "keeper", "closure", "frame", "world", "turn", "choices", "takes", "drops", "a", "b",
                "c", "0",
            "1", "entry", "0.0", "", " ", "A", "\u00e9"]
        chance = random.Random(7)
        for _ in range(4000):
            rows = []
            for _ in range(chance.randint(1, 5)):
                row = [chance.choice(words) for _ in range(chance.randint(1, 4))]
                rows.append("  " * chance.randint(0, 2) + " ".join(row))
            rows[0] = chance.choice([rows[0], "function a b", "layout", "keeper", "world"])
            for kind in KINDS:
                line = unreadable(kind, "\n".join(rows))
                self.assertTrue(line is None or 0 <= line <= len(rows))
            self.assertIn(is_program_text("\n".join(rows)), (True, False))


class TimeTest(unittest.TestCase):
    def test_long_texts(self):
        began = time.perf_counter()
        functions = "\n".join(f"  function {a}{b}{c}" for a in "abcdefghij" for b in "abcdefghij" for c in "abcdefghij")
        with self.assertRaises(TooMany):
            read_program("function main\n" + functions)
        with self.assertRaises(Unreadable) as caught:
            read_program("function main\n" + functions + "\n" + "  show a\n" * 20000)
        self.assertEqual(caught.exception.line, 21001)
        with self.assertRaises(UnknownName):
            read_program("function main\n" + "\n".join(["  show a"] * 20000))
        world = [(at, tuple(range(at % 5)), (), (), ()) for at in range(20000)]
        self.assertEqual(read_world(write_world(world)), world)
        with self.assertRaises(Unreadable):
            read_program(" " * 10 ** 6 + "function main")
        self.assertLess(time.perf_counter() - began, 20)

    def test_plain_keepers(self):
        program = sample()
        self.assertEqual(read_keeper(program, write_keeper(Plain(program))), Plain(program))
        self.assertEqual(read_layout(program, write_layout(Layout.chained(program))).choice(),
            Layout.chained(program).choice())
        self.assertIsNone(refusal(Function("main")))


if __name__ == "__main__":
    unittest.main()
