import random
import unittest

from heldby.changes import Lifting, Pruning, Renaming, Sinking
from heldby.desks import Desk, answers
from heldby.errors import (
    CommandError, DuplicateName, GivenAway, InTrial, InUse, InvalidName, InvalidNumber, Leaks, NothingToRedo,
    NothingToUndo, NotJoined, NotSame, TooDear, TooMany, UnknownName, UnknownPoint,
)
from heldby.growth import growth
from heldby.keepers import Plain, points
from heldby.layouts import Layout
from heldby.prices import cheapest, mends, price
from heldby.reading import read_program
from heldby.sessions import BoundSession, CappedSession, Session, StrictSession
from heldby.texts import keeper_table, write_keeper, write_layout, write_program
from tests.makers import made_layout, programs
from tests.samples import any_values
from tests.test_families import flat_program
from tests.test_grown import pair
from tests.test_sessions import redone, state, work

EXAMPLE = (
    "function main\n  things a b\n  function f x\n    show a\n  function g\n    show b\n  call f b\n  give f\n  give g"
)


def wide():
    """Main captures a, b, c and n; f and g use them, and h in g; u is not used."""
    return read_program("""function main a b
  things c
  numbers n
  function f x
    show a
    show b
    add n 3
  function g
    things y z
    function h
      show y
      show z
      show c
    give h
    show c
  function u
    show a
  function self
    show b
  call f a
  give g
  call self
  show b""")


class ExamplesTest(unittest.TestCase):
    def test_examples(self):
        program = read_program(EXAMPLE)
        desk = Desk(Session(program))
        self.assertEqual([desk("price"), desk("bundle a b"), desk("closure f"), desk("growth"), desk("mends")],
            ["5", "ok", "a b", "1", "split a b"])
        self.assertEqual([desk("mend"), desk("layout"), desk("undo"), desk.session.redoable, desk("try weigh f 0"),
            desk("layout")], ["split a b", "layout\nopened f g", "ok", 1, "ok", "layout\nbundle a b\nopened f g"])


class DeskTest(unittest.TestCase):
    """A desk, and a session that does by its methods what the desk is to do."""

    def setUp(self):
        self.session = Session(wide())
        self.desk = Desk(self.session)

    def answer(self, line, want):
        """An answer of a line that is no step."""
        before = state(self.session), redone(self.session)
        self.assertEqual(self.desk(line), want)
        self.assertEqual(self.desk.run(line), want)
        self.assertEqual(self.desk(f"try {line}"), want)
        self.assertEqual((state(self.session), redone(self.session)), before)

    def step(self, line, step, want="ok"):
        """A line that does what a call of a session does, as one step."""
        other = self.session.copied()
        before = state(self.session), redone(self.session)
        self.assertEqual(self.desk(f"try {line}"), want)
        self.assertEqual((state(self.session), redone(self.session)), before)
        step(other)
        self.assertEqual(self.desk.run(line), want)
        self.assertEqual(state(self.session), state(other))
        self.assertEqual(self.session.undoable, before[0][2] + 1)
        self.assertEqual(self.session.redoable, 0)

    def refused(self, line, kind, fields):
        before = state(self.session), redone(self.session)
        for call in (self.desk, self.desk.run):
            for text in (line, f"try {line}"):
                with self.assertRaises(kind) as caught:
                    call(text)
                self.assertIs(type(caught.exception), kind)
                self.assertEqual(vars(caught.exception), fields)
                self.assertEqual((state(self.session), redone(self.session)), before)

    def layout(self, **told):
        """A step that adopts a layout which differs from the present one."""
        def step(session):
            bundles, linked, opened = session.layout.choice()
            choice = {"bundles": bundles, "linked": linked, "opened": opened, **told}
            session.adopt(Layout(session.program, **choice))
        return step


class MakingTest(DeskTest):
    def test_session(self):
        self.assertIs(self.desk.session, self.session)
        self.assertIs(Desk(session=self.session).session, self.session)
        self.assertIsInstance(vars(Desk)["session"], property)
        with self.assertRaises(AttributeError):
            self.desk.session = None
        for name in ("run", "__call__"):
            self.assertIn(name, vars(Desk))
        self.assertEqual(self.desk.run(line="price"), self.desk(line="price"))

    def test_the_session_goes_on(self):
        self.session.weigh(f=3)
        self.assertEqual(self.desk("price"), str(self.session.price))
        self.desk("weigh f 4")
        self.assertEqual(self.session.weights, {"f": 4})


class StepsTest(DeskTest):
    def test_bundle(self):
        self.step("bundle a b", self.layout(bundles=[["a", "b"]]))
        self.step("bundle n c", self.layout(bundles=[["a", "b"], ["c", "n"]]))
        self.step("bundle y z", self.layout(bundles=[["a", "b"], ["c", "n"], ["y", "z"]]))
        # The units of both become one bundle.
        self.step("bundle a n", self.layout(bundles=[["a", "b", "c", "n"], ["y", "z"]]))
        self.step("bundle b a c", self.layout())
        self.step("bundle z y z", self.layout())

    def test_bundle_of_one_variable(self):
        self.step("bundle a a", self.layout())
        self.assertEqual(self.session.layout.bundles, ())
        self.step("bundle a a b a", self.layout(bundles=[["a", "b"]]))
        self.step("bundle a a", self.layout())
        self.assertEqual(self.session.layout.bundles, (("a", "b"),))
        self.step("bundle c b", self.layout(bundles=[["a", "b", "c"]]))

    def test_bundle_of_three(self):
        self.step("bundle n a c", self.layout(bundles=[["a", "c", "n"]]))

    def test_wrong_bundles(self):
        for line, value in (("bundle a x", "x"), ("bundle x a", "x"), ("bundle y a nobody", "nobody"),
            ("bundle f a", "f"),
            ("bundle nobody x", "nobody"), ("bundle a b u", "u"), ("bundle x x", "x")):
            self.refused(line, UnknownName, {"value": value})
        for line in ("bundle a y", "bundle y a", "bundle a b z", "bundle a a y"):
            self.refused(line, NotJoined, {})

    def test_alone(self):
        self.desk("bundle a b c n")
        self.step("alone n", self.layout(bundles=[["a", "b", "c"]]))
        self.step("alone a", self.layout(bundles=[["b", "c"]]))
        self.step("alone a", self.layout())
        # A single one that is left is alone, too.
        self.step("alone c", self.layout(bundles=[]))
        self.step("alone z", self.layout())
        for value in ("x", "f", "nobody", "main"):
            self.refused(f"alone {value}", UnknownName, {"value": value})

    def test_link_and_unlink(self):
        self.step("link h", self.layout(linked=["h"]))
        self.step("link f", self.layout(linked=["f", "h"]))
        self.step("link f", self.layout())
        self.step("unlink h", self.layout(linked=["f"]))
        self.step("unlink h", self.layout())
        for word in ("link", "unlink"):
            for value in ("u", "main", "a", "nobody"):
                self.refused(f"{word} {value}", UnknownName, {"value": value})

    def test_open_and_shut(self):
        self.step("shut h", self.layout(opened=["f", "g", "self"]))
        self.step("shut h", self.layout())
        self.step("shut f", self.layout(opened=["g", "self"]))
        self.step("open h", self.layout(opened=["g", "h", "self"]))
        self.step("open h", self.layout())
        for word in ("open", "shut"):
            for value in ("u", "main", "a", "nobody"):
                self.refused(f"{word} {value}", UnknownName, {"value": value})

    def test_weigh_and_unweigh(self):
        self.step("weigh f 3", lambda session: session.weigh(f=3))
        self.step("weigh main 0", lambda session: session.weigh(main=0))
        self.step("weigh f 1000000", lambda session: session.weigh(f=10 ** 6))
        self.step("weigh h 1", lambda session: session.weigh(h=1))
        self.step("unweigh f", lambda session: session.weigh(f=None))
        self.step("unweigh f", lambda session: session.weigh())
        self.assertEqual(self.session.weights, {"h": 1, "main": 0})
        # A function with this name cannot be weighed by keywords.
        self.assertEqual(self.desk("weigh self 7"), "ok")
        self.assertEqual(self.session.weights, {"h": 1, "main": 0, "self": 7})
        self.assertEqual(self.desk("unweigh self"), "ok")
        self.assertEqual(self.session.weights, {"h": 1, "main": 0})
        for value in ("u", "a", "nobody"):
            self.refused(f"weigh {value} 1000001", UnknownName, {"value": value})
            self.refused(f"unweigh {value}", UnknownName, {"value": value})
        self.refused("weigh f 1000001", InvalidNumber, {"value": 1000001})
        self.refused(f"weigh f {'9' * 31}", InvalidNumber, {"value": 10 ** 31 - 1})

    def test_rename(self):
        self.step("rename a q", lambda session: session.apply(Renaming(session.program, {"a": "q"})))
        self.step("rename g gg", lambda session: session.apply(Renaming(session.program, {"g": "gg"})))
        self.step("rename main main", lambda session: session.apply(Renaming(session.program, {})))
        self.refused("rename a r", UnknownName, {"value": "a"})
        self.refused("rename b q", DuplicateName, {"value": "q"})

    def test_prune(self):
        self.refused("prune f", InUse, {"value": "f"})
        self.refused("prune main", UnknownName, {"value": "main"})
        self.refused("prune f nobody", UnknownName, {"value": "nobody"})
        self.refused("prune u h", InUse, {"value": "h"})
        self.step("prune u u", lambda session: session.apply(Pruning(session.program, "u")))
        self.step("prune", lambda session: session.apply(Pruning(session.program)))
        self.desk("undo")
        self.desk("undo")
        self.step("prune", lambda session: session.apply(Pruning(session.program)))
        self.assertNotIn("u", self.session.program)

    def test_lift_and_sink(self):
        self.desk("bundle a b n")
        self.refused("lift main a q", UnknownName, {"value": "main"})
        self.refused("lift f c q", UnknownName, {"value": "c"})
        self.refused("lift f n q", UnknownName, {"value": "n"})
        self.refused("lift g c q", GivenAway, {"value": "g"})
        self.refused("lift f a x", DuplicateName, {"value": "x"})
        self.step("lift f a q", lambda session: session.apply(Lifting(session.program, "f", "a", "q")))
        self.assertEqual(self.session.layout.bundles, (("b", "n"),))
        self.refused("sink f y", UnknownName, {"value": "y"})
        self.refused("sink nobody q", UnknownName, {"value": "nobody"})
        self.step("sink f q", lambda session: session.apply(Sinking(session.program, "f", "q")))
        self.step("sink f x", lambda session: session.apply(Sinking(session.program, "f", "x")))
        self.assertEqual(self.session.layout.bundles, (("b", "n"),))

    def test_sinkings_that_are_none(self):
        program = read_program("function main a b\n  function f x\n    show x\n  function g y\n    show y\n  call f a\n"
            "  call f b\n  give g")
        self.session = Session(program)
        self.desk = Desk(self.session)
        self.refused("sink f x", NotSame, {"value": "x"})
        self.refused("sink g y", GivenAway, {"value": "g"})

    def test_undo_and_redo(self):
        self.refused_now("undo", NothingToUndo)
        self.refused_now("redo", NothingToRedo)
        self.desk("weigh f 3")
        self.desk("weigh f 4")
        self.assertEqual((self.desk("undo"), self.session.weights), ("ok", {"f": 3}))
        self.assertEqual((self.session.undoable, self.session.redoable), (1, 1))
        self.assertEqual((self.desk.run("undo"), self.session.weights), ("ok", {}))
        self.assertEqual((self.desk("redo"), self.session.weights), ("ok", {"f": 3}))
        self.assertEqual((self.session.undoable, self.session.redoable), (1, 1))
        before = state(self.session), redone(self.session)
        for line in ("try undo", "try redo"):
            with self.assertRaises(InTrial):
                self.desk(line)
        with self.session.trial():
            for line in ("undo", "redo", "try undo"):
                with self.assertRaises(InTrial):
                    self.desk(line)
        self.assertEqual((state(self.session), redone(self.session)), before)

    def refused_now(self, line, kind):
        with self.assertRaises(kind) as caught:
            self.desk(line)
        self.assertEqual(vars(caught.exception), {})

    def test_improve(self):
        program = pair()
        self.session = Session(program)
        self.desk = Desk(self.session)
        self.desk("bundle a b")
        self.step("improve", lambda session: session.improve(), "4")
        for line, most in (("improve 0", 0), ("improve 1", 1), ("improve 100", 100)):
            self.session.adopt(Layout.chained(program))
            want = price(cheapest(program, most=most))
            self.step(line, lambda session: session.improve(most), str(want))
        self.refused("improve 101", InvalidNumber, {"value": 101})
        # With no number, nothing may be too much.
        program = read_program("function main a b c\n  function g\n    show a\n    show b\n    show c\n  function k\n"
            + "    give g\n" * 5 + "  call k\n  show b")
        self.session = Session(program)
        self.desk = Desk(self.session)
        self.desk("weigh main 0")
        prices = [price(cheapest(program, {"main": 0}, most=most), {"main": 0}) for most in (0, 1, 2)]
        self.assertEqual(len(set(prices)), 3)
        self.assertEqual([self.desk(line) for line in ("improve", "improve 0", "improve 1", "improve 2")],
            [str(cost) for cost in (prices[0], *prices)])
        self.session = Session(flat_program(8, 0, 1))
        self.desk = Desk(self.session)
        self.refused("improve", TooMany, {"limit": 1500})
        self.refused("improve 101", InvalidNumber, {"value": 101})

    def test_mend(self):
        self.session = Session(pair())
        self.desk = Desk(self.session)
        self.answer("mend", "-")
        self.desk("bundle a b")
        self.step("mend", lambda session: session.adopt(session.layout.unbundled(0)), "split a b")
        self.assertEqual(self.session.layout.bundles, ())
        program = read_program("function main a b\n  function f\n    show a\n    show b\n  give f")
        self.session = Session(program)
        self.desk = Desk(self.session)
        self.desk("shut f")
        self.step("mend", lambda session: session.adopt(Layout.flat(program)), "open f")
        program = read_program("function main a b\n  function f\n    function g\n      function h\n        show a\n"
            "      give h\n    call g\n    show b\n  call f")
        self.session = Session(program)
        self.desk = Desk(self.session)
        self.desk("link h")
        self.desk("link g")
        self.answer("mends", "unlink g\nunlink h")
        self.step("mend", lambda session: session.adopt(session.layout.with_link("g", False)), "unlink g")
        self.answer("mends", "-")

    def test_no_single_mend(self):
        program = read_program("function main a b c d\n  function f\n    show a\n    show c\n  function g\n    show b\n"
            "    show d\n  give f\n  give g")
        self.session = Session(program)
        self.desk = Desk(self.session)
        self.desk("bundle a b")
        self.desk("bundle c d")
        self.answer("mend", "-")
        self.answer("mends", "-")
        self.assertEqual(self.session.undoable, 2)


class QuestionsTest(DeskTest):
    def questions(self):
        layout, program = self.session.layout, self.session.program
        many = growth(layout, Plain(program))
        told = [f"{word} {' '.join(what) if word == 'split' else what}" for word, what in mends(layout)]
        yield "program", write_program(program)
        yield "layout", write_layout(layout)
        yield "keeper", write_keeper(layout)
        yield "table", keeper_table(layout, Plain(program))
        yield "price", str(self.session.price)
        yield "growth", "-" if many is None else str(many)
        yield "mends", "\n".join(told) or "-"
        for name in program.functions:
            yield f"closure {name}", " ".join(layout.closure(name)) or "-"
            for point in points(program, name):
                word = ".".join(map(str, point)) or "entry"
                yield f"frame {name} {word}", " ".join(layout.frame(name, point)) or "-"

    def test_answers(self):
        for made in (Layout.flat, Layout.chained, Layout):
            self.session.adopt(made(wide()))
            for line, want in self.questions():
                self.answer(line, want)

    def test_many_programs(self):
        asked = 0
        for at, program in enumerate(programs(25)):
            self.session = Session(program)
            self.desk = Desk(self.session)
            self.session.adopt(made_layout(random.Random(at), program))
            self.session.weigh(**{name: at for name in program.used[:2]})
            for line, want in self.questions():
                self.assertEqual(self.desk(line), want)
                asked += 1
            self.assertEqual(self.session.undoable, 2)
        self.assertGreater(asked, 300)

    def test_a_growth_without_end(self):
        program = read_program(
            "function main\n  function f\n    things y z\n    function g\n      show y\n    function h\n"
            "      show z\n    give g\n    either\n      call f\n    or\n    end\n    give h\n  call f")
        self.session = Session(program)
        self.desk = Desk(self.session)
        self.answer("growth", "0")
        self.desk("bundle y z")
        self.answer("growth", "-")

    def test_wrong_names_and_points(self):
        for value in ("a", "nobody", "n"):
            self.refused(f"closure {value}", UnknownName, {"value": value})
            self.refused(f"frame {value} 17", UnknownName, {"value": value})
        for word, point in (("7", (7,)), ("0.0", (0, 0)), ("0.1.2", (0, 1, 2)), ("9" * 31, (10 ** 31 - 1,))):
            self.refused(f"frame f {word}", UnknownPoint, {"value": point})


class LinesTest(DeskTest):
    def test_values_that_are_no_line(self):
        forms = {
            "bundle": ["", "a", "a 1", "a B", "1 2"], "alone": ["", "a b", "1"], "link": ["", "f g", "1"],
            "unlink": ["", "f g", "0"], "open": ["", "f g", "F"], "shut": ["", "f g", "f f"],
            "weigh": ["", "f", "f g", "f -1", "f 01", "f 1 2", "1 f", f"f {'9' * 32}", "f 1.0", "f +1", "f \u0661"],
            "unweigh": ["", "f 1", "f g", "1"], "rename": ["", "a", "a b c", "a 1", "a ninechars", "A b"],
            "prune": ["1", "u 1", "U"], "lift": ["", "f", "f a", "f a b c", "f a 1"], "sink": ["", "f", "f a b", "1 a"],
            "undo": ["1", "f"], "redo": ["1", "f"], "improve": ["f", "1 2", "-1", "01", "none", "-"],
                "mend": ["f", "1"],
            "program": ["f"], "layout": ["f"], "keeper": ["f", "1"], "table": ["f"], "price": ["f", "1"],
            "growth": ["1"], "mends": ["1", "f"], "closure": ["", "f g", "1"],
            "frame": ["", "f", "f 0 1", "0 f", "f -", "f 00", "f 0.", "f .0", "f 0..1", "f entry.0", "f ent", "f 0,1",
                f"f {'9' * 32}"],
        }
        self.assertEqual(len(forms), 25)
        lines = [f"{word} {rest}" if rest else word for word, rows in forms.items() for rest in rows]
        lines += [word.upper() for word in forms] + [word + "s" for word in forms if word != "mend"]
        lines += ["", " ", "try", "try ", "nobody", "try nobody", "try try price", "try try", "a b", "weigh",
            "adopt f", "save"]
        for word in forms:
            lines += [word + " ", " " + word, "  " + word, word + "\n", word + "\t"]
        lines += ["weigh  f 3", "weigh f  3", "weigh f 3 ", "bundle a  b", "prune u ", "weigh\tf\t3", "price\nprice"]
        for line in lines:
            for text in (line, f"try {line}"):
                self.refused_whole(text)
        for value in any_values():
            if not isinstance(value, str):
                self.refused_whole(value)
        for value in (["price"], ("price",), b"price", {"price": 1}):
            self.refused_whole(value)

    def refused_whole(self, value):
        before = state(self.session), redone(self.session)
        for call in (self.desk, self.desk.run):
            with self.assertRaises(CommandError) as caught:
                call(value)
            self.assertEqual(list(vars(caught.exception)), ["value"])
            self.assertIs(caught.exception.value, value)
        self.assertEqual((state(self.session), redone(self.session)), before)

    def test_names_of_eight_letters(self):
        self.assertEqual(self.desk("rename a eightcha"), "ok")
        self.refused_whole("rename b ninechars")
        with self.assertRaises(CommandError):
            self.desk("rename a B")
        self.assertFalse(issubclass(InvalidName, CommandError))

    def test_words_as_names(self):
        program = read_program("function main\n  function try undo\n    show undo\n  give try")
        desk = Desk(Session(program))
        self.assertEqual(desk("closure try"), "-")
        self.assertEqual(desk("weigh try 0"), "ok")
        self.assertEqual(desk("try closure try"), "-")
        self.assertEqual(desk("frame try entry"), "undo")
        self.assertEqual(desk("rename undo entry"), "ok")
        self.assertEqual(desk("frame try entry"), "entry")


class GuardedDesksTest(DeskTest):
    def test_guards(self):
        program = pair()
        self.session = StrictSession(program, 0, 6)
        self.desk = Desk(self.session)
        self.refused("bundle a b", Leaks, {"value": 1})
        self.refused("weigh f 4", TooDear, {"value": 7})
        self.step("weigh f 3", lambda session: session.weigh(f=3))
        self.session = BoundSession(program, 1)
        self.desk = Desk(self.session)
        self.assertEqual(self.desk("bundle a b"), "ok")
        self.assertEqual(self.desk("mend"), "split a b")
        self.session = CappedSession(program, 4)
        self.desk = Desk(self.session)
        self.refused("bundle a b", TooDear, {"value": price(Layout(program, bundles=[["a", "b"]], opened=["f", "g"]))})
        self.assertEqual(self.desk("improve"), "4")

    def test_mends_that_are_too_dear(self):
        program = read_program("function main a b\n  function f\n    show a\n    show b\n  give f")
        shut, flat = Layout(program), Layout.flat(program)
        self.assertEqual((price(shut), price(flat)), (4, 4))
        self.session = CappedSession(program, 4)
        self.desk = Desk(self.session)
        self.desk("shut f")
        self.assertEqual(self.desk("mend"), "open f")
        # Bundled, f has one unit; split, it has two.
        program = pair()
        bundled = Layout(program, bundles=[["a", "b"]], opened=["f", "g"])
        self.session = CappedSession(program, price(bundled))
        self.desk = Desk(self.session)
        self.desk("bundle a b")
        self.desk("weigh main 0")
        self.assertEqual(self.desk("mend"), "split a b")


class AnswersTest(unittest.TestCase):
    def begun(self):
        session = Session(wide())
        session.weigh(f=3)
        session.weigh(f=4)
        session.undo()
        return session

    def test_each_line_is_a_step(self):
        session = self.begun()
        price_then = session.price
        found = answers(session, ["price", "weigh g 2", "bundle a b", "closure f", "undo", "redo", "try weigh f 9",
            "layout"])
        self.assertEqual(found, [str(price_then), "ok", "ok", "a b", "ok", "ok", "ok",
            "layout\nbundle a b\nopened f g h self"])
        self.assertIsInstance(found, list)
        self.assertEqual((session.weights, session.undoable, session.redoable), ({"f": 3, "g": 2}, 3, 0))
        self.assertEqual(answers(session=session, lines=("undo", "undo")), ["ok", "ok"])
        self.assertEqual((session.weights, session.undoable, session.redoable), ({"f": 3}, 1, 2))

    def test_no_lines(self):
        session = self.begun()
        before = state(session), redone(session)
        self.assertEqual(answers(session, []), [])
        self.assertEqual((state(session), redone(session)), before)

    def test_given_lines_stay(self):
        lines = ["price", "weigh f 9"]
        answers(self.begun(), lines)
        self.assertEqual(lines, ["price", "weigh f 9"])

    def test_refused_lines(self):
        good = ["weigh g 2", "undo", "undo", "redo", "bundle a b", "rename a q", "prune", "improve", "price"]
        for at in range(len(good) + 1):
            for line, kind, fields in (("weigh nobody 1", UnknownName, {"value": "nobody"}),
                ("", CommandError, {"value": ""}),
                ("try undo", InTrial, {}), ("weigh f 1000001", InvalidNumber, {"value": 1000001}),
                (None, CommandError, {"value": None}), ("try weigh f x", CommandError, {"value": "try weigh f x"})):
                session = self.begun()
                before = state(session), redone(session)
                lines = good[:at] + [line] + good[at:]
                if "improve" in lines[:at]:
                    lines.remove("improve")
                with self.assertRaises(kind) as caught:
                    answers(session, lines)
                self.assertEqual(vars(caught.exception), fields)
                self.assertEqual((state(session), redone(session)), before)
                session.redo()
                self.assertEqual(session.weights, {"f": 4})

    def test_errors_that_the_program_does_not_know(self):
        session = self.begun()
        before = state(session), redone(session)

        class Lines(list):
            def __iter__(self):
                yield "weigh g 2"
                raise KeyError("x")

        with self.assertRaises(KeyError):
            answers(session, Lines())
        self.assertEqual((state(session), redone(session)), before)

    def test_within_a_trial(self):
        session = self.begun()
        with session.trial() as trial:
            session.weigh(g=1)
            self.assertEqual(answers(session, ["weigh g 2", "weigh main 3"]), ["ok", "ok"])
            with self.assertRaises(InTrial):
                answers(session, ["weigh g 5", "undo"])
            self.assertEqual((session.weights, session.depth), ({"f": 3, "g": 2, "main": 3}, 1))
            with self.assertRaises(CommandError):
                answers(session, ["weigh g 7", "try weigh g 8", "?"])
            self.assertEqual((session.weights, session.depth), ({"f": 3, "g": 2, "main": 3}, 1))
            trial.keep()
        self.assertEqual((session.weights, session.undoable, session.redoable), ({"f": 3, "g": 2, "main": 3}, 2, 0))

    def test_guarded_sessions(self):
        session = StrictSession(pair(), 0, 6)
        session.weigh(f=2)
        before = state(session)
        for lines, kind in ((["weigh g 0", "bundle a b"], Leaks), (["weigh g 0", "weigh f 6"], TooDear)):
            with self.assertRaises(kind):
                answers(session, lines)
            self.assertEqual(state(session), before)
        self.assertEqual(answers(session, ["weigh g 0", "weigh f 4", "price"]), ["ok", "ok", "6"])

    def test_the_same_as_run(self):
        for at, program in enumerate(programs(25)):
            chance = random.Random(at)
            one, other = Session(program), Session(program)
            desk, lines = Desk(other), []
            names = list(program.used)
            for _ in range(6):
                lines.append(chance.choice([
                    f"weigh {chance.choice(names)} {chance.randint(0, 9)}", f"open {names[-1]}", f"shut {names[-1]}",
                    f"link {names[-1]}", "price", "layout", "prune", "mend", "mends", "growth", f"closure {names[-1]}",
                        "table",
                ]))
            if len(names) == 1:
                lines = [line for line in lines if line.split()[0] not in ("open", "shut", "link")]
            self.assertEqual(answers(one, lines), [desk(line) for line in lines])
            self.assertEqual(state(one), state(other))
            self.assertEqual(work(one), work(other))


if __name__ == "__main__":
    unittest.main()
