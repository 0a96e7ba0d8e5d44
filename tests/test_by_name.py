"""The interface as it is written: names of arguments, their order and defaults, by name and by position."""

import inspect
import unittest

from heldby import (
    changes, comparing, desks, errors, growth, keepers, layouts, limits, prices, programs, reading, runs, sessions,
    statements, texts, worlds,
)
from heldby.changes import Grafting, Lifting, Pruning, Renaming, Sinking
from heldby.keepers import Plain, Told
from heldby.layouts import Layout
from heldby.reading import read_program
from heldby.runs import Run
from heldby.sessions import BoundSession, CappedSession, Session, StrictSession
from heldby.statements import Function

# The words behind a name are its arguments, as Python writes them.
INTERFACE = {
    statements: """Show(name) Add(name, many) Call(name, things) Give(name) Either(one, other)
        Function(name, parameters=(), *, things=(), numbers=(), functions=(), body=())""",
    programs: """Program(main) Program.function(name) Program.parent(name) Program.chain(name) Program.variables(name)
        Program.chain_things(name) Program.uses(name) Program.needs(name) Program.captured(name)""",
    keepers: """points(program, name) Keeper.closure(name) Keeper.frame(name, point) Plain(program)
        Told(program, closures, frames)""",
    layouts: """Layout(program, *, bundles=(), linked=(), opened=()) Layout.choice() Layout.wanted(name)
        Layout.recorded(name) Layout.units(name) Layout.reach(unit) Layout.flat(program) Layout.chained(program)
        Layout.unbundled(index) Layout.joined(one, other) Layout.with_link(name, on) Layout.with_open(name, on)
        Layout.refines(other)""",
    worlds: """stack_at(program, world, moment) held_at(program, world, moment) kept_at(keeper, world, moment)
        count_moments(program, world) shows_of(program, world)""",
    comparing: "keeps_no_more(one, other) compared(one, other) is_compared(one, other, value) excesses(one, other)",
    runs: """Run(program) Run.of(program, world) Run.kept(keeper) Handle.drop()
        Handle.__call__(things=(), choices=(), takes=(), last=False)""",
    growth: "growth(one, other) grown(one, other) is_grown(one, other, value)",
    prices: """way_of(layout, name, variable) entry_price(layout, name) statement_prices(layout, name)
        price(layout, weights=None) family_size(program) family(program) paid(layout, world)
        cheapest(program, weights=None, *, most=0) least_price(program, weights=None, *, most=0) mends(layout)
        coarsest(program)""",
    changes: """Renaming(program, names) Renaming.inverse() Pruning(program, *names) Change.__call__(keeper)
        Grafting(program, parent, function, *, index=0) Lifting(program, name, variable, parameter)
        Sinking(program, name, parameter)""",
    texts: """write_program(program) write_layout(layout) write_keeper(keeper) write_world(world)
        line_of(program, name, point) point_at(program, line) keeper_table(keeper, *others)""",
    reading: """read_program(text) read_layout(program, text) read_keeper(program, text) read_world(text)
        is_program_text(value)""",
    sessions: """Session(program) Session.adopt(layout) Session.apply(*changes) Session.weigh(**weights)
        Session.improve(most=0) Session.undo(count=1) Session.redo(count=1) Session.trial() Session.attempt(call)
        Session.works() Session.copied() Trial.keep() BoundSession(program, most) CappedSession(program, cap)
        StrictSession(program, most, cap)""",
    desks: "Desk(session) Desk.run(line) Desk.__call__(line) answers(session, lines)",
}
PROPERTIES = {
    programs: "Program.main Program.functions Program.used", keepers: "Keeper.program",
    layouts: "Layout.bundles Layout.linked Layout.opened", runs: "Run.handles Run.world Run.program Handle.number "
    "Handle.name Handle.is_held", changes: "Change.program Change.result Sinking.variable",
    sessions: "Session.program Session.layout Session.weights Session.price Session.undoable Session.redoable "
    "Session.depth Trial.is_kept BoundSession.most CappedSession.cap StrictSession.most StrictSession.cap",
    desks: "Desk.session",
}
OTHERS = {
    programs: "Program.__eq__ Program.__len__ Program.__contains__",
        keepers: "Keeper.__eq__ Keeper.__and__ Keeper.__or__",
    changes: "Change.__eq__ Change.__add__", sessions: "Session.__eq__ Trial.__enter__ Trial.__exit__",
    statements: "Show.__eq__ Add.__eq__ Call.__eq__ Give.__eq__ Either.__eq__ Function.__eq__",
}


def told(text):
    """Tuples (name, arguments) of a text of the interface."""
    for row in text.replace("\n", " ").split(") "):
        name, arguments = row.strip().rstrip(")").split("(", 1)
        closing = ")" if arguments.endswith("=(") else ""
        yield name, arguments + closing


class InterfaceTest(unittest.TestCase):
    def test_arguments(self):
        looked = 0
        for module, text in INTERFACE.items():
            for name, arguments in told(text):
                found, *inner = name.split(".")
                value = vars(module)[found]
                self.assertEqual(value.__module__, module.__name__)
                if inner:
                    # A method stands in the class itself.
                    value = vars(value)[inner[0]]
                    value = value.__func__ if isinstance(value, classmethod) else value
                elif inspect.isclass(value):
                    value = vars(value)["__init__"]
                rows = list(inspect.signature(value).parameters.values())
                if inner or inspect.isclass(vars(module)[found]):
                    rows = rows[1:]
                signature = str(inspect.Signature(rows))
                self.assertEqual(signature, f"({arguments})", name)
                looked += 1
        self.assertGreater(looked, 90)

    def test_properties_and_operators(self):
        for table, is_right in ((PROPERTIES, lambda value: isinstance(value, property) and value.fset is None),
            (OTHERS, inspect.isfunction)):
            for module, text in table.items():
                for name in text.split():
                    made, inner = name.split(".")
                    self.assertTrue(is_right(vars(vars(module)[made])[inner]), name)

    def test_errors_and_limits(self):
        for name, made in vars(errors).items():
            if inspect.isclass(made):
                fields = list(inspect.signature(made).parameters) if "__init__" in vars(made) else []
                values = [object() for _ in fields]
                for error in (made(*values), made(**dict(zip(fields, values)))):
                    self.assertEqual(vars(error), dict(zip(fields, values)))
        self.assertEqual(len([1 for made in vars(errors).values() if inspect.isclass(made)]), 33)
        self.assertEqual([limits.FAMILY, limits.MOMENTS, limits.STANDS], [1500, 100000, 3000])


class CallsTest(unittest.TestCase):
    """The same call by position and by name."""

    def setUp(self):
        self.program = read_program("function main a b\n  function f x\n    show a\n    show x\n  call f b\n  give f")
        self.lifted = read_program("function main a b\n  function g\n    show a\n  call g\n  show b")
        self.layout = Layout(self.program, linked=["f"])

    def same(self, one, other):
        self.assertEqual(one, other)

    def test_functions(self):
        program, layout, plain = self.program, self.layout, Plain(self.program)
        world = [(0, (1, 2), (), (0,), ())]
        found = comparing.compared(one=layout, other=plain)
        grown = growth.grown(one=layout, other=plain)
        for what, arguments in (
            (comparing.keeps_no_more, {"one": layout, "other": plain}),
                (comparing.compared, {"one": layout, "other": plain}),
            (comparing.is_compared, {"one": layout, "other": plain, "value": found}),
            (comparing.excesses, {"one": layout, "other": plain}), (keepers.points, {"program": program, "name": "f"}),
            (growth.growth, {"one": layout, "other": plain}), (growth.grown, {"one": layout, "other": plain}),
            (growth.is_grown, {"one": layout, "other": plain, "value": grown}),
            (worlds.stack_at, {"program": program, "world": world, "moment": 1}),
            (worlds.held_at, {"program": program, "world": world, "moment": None}),
            (worlds.kept_at, {"keeper": layout, "world": world, "moment": 2}),
            (worlds.count_moments, {"program": program, "world": world}),
            (worlds.shows_of, {"program": program, "world": world}),
            (prices.way_of, {"layout": layout, "name": "f", "variable": "a"}),
            (prices.entry_price, {"layout": layout, "name": "f"}),
            (prices.statement_prices, {"layout": layout, "name": "f"}),
            (prices.price, {"layout": layout, "weights": {"f": 3}}), (prices.family_size, {"program": program}),
            (prices.paid, {"layout": layout, "world": world}), (prices.mends, {"layout": layout}),
            (texts.write_program, {"program": program}), (texts.write_layout, {"layout": layout}),
            (texts.write_keeper, {"keeper": layout}), (texts.write_world, {"world": world}),
            (texts.line_of, {"program": program, "name": "f", "point": (0,)}),
            (texts.point_at, {"program": program, "line": 2}), (texts.keeper_table, {"keeper": layout}),
            (reading.read_program, {"text": texts.write_program(program)}),
            (reading.read_layout, {"program": program, "text": texts.write_layout(layout)}),
            (reading.read_keeper, {"program": program, "text": texts.write_keeper(layout)}),
            (reading.read_world, {"text": texts.write_world(world)}),
                (reading.is_program_text, {"value": "function a"}),
        ):
            with self.subTest(what.__name__):
                self.same(what(**arguments), what(*arguments.values()))
                self.same(what(**dict(reversed(arguments.items()))), what(*arguments.values()))
        self.same([made.choice() for made in prices.family(program=program)],
            [made.choice() for made in prices.family(program)])
        self.same([made.choice() for made in prices.coarsest(program=program)],
            [made.choice() for made in prices.coarsest(program)])
        self.same(prices.cheapest(program=program, weights={"f": 2}, most=1).choice(),
            prices.cheapest(program, {"f": 2}, most=1).choice())
        self.same(prices.least_price(program=program, weights={"f": 2}, most=1),
            prices.least_price(program, {"f": 2}, most=1))

    def test_classes(self):
        program, lifted = self.program, self.lifted
        self.same(Told(program=program, closures={"f": ["a"]}, frames={}), Told(program, {"f": ["a"]}, {}))
        self.same(Renaming(program=program, names={"a": "c"}), Renaming(program, {"a": "c"}))
        self.same(Pruning(program=program), Pruning(program))
        self.same(Grafting(program=program, parent="f", function=Function("k"), index=0),
            Grafting(program, "f", Function("k")))
        change = Lifting(program=lifted, name="g", variable="a", parameter="q")
        self.same(change, Lifting(lifted, "g", "a", "q"))
        self.same(Sinking(program=change.result, name="g", parameter="q"), Sinking(change.result, "g", "q"))
        self.same(change(keeper=Plain(lifted)), change(Plain(lifted)))
        self.same(Run.of(program=program, world=[]).world, Run(program=program).world)
        self.same(BoundSession(program=program, most=3), CappedSession(program=program, cap=99))
        self.same(StrictSession(program=program, most=3, cap=99), Session(program=program))

    def test_methods(self):
        program, layout = self.program, self.layout
        for what, arguments in (
            (layout.closure, {"name": "f"}), (layout.frame, {"name": "f", "point": (0,)}),
                (layout.wanted, {"name": "f"}),
            (layout.recorded, {"name": "f"}), (layout.units, {"name": "f"}), (layout.reach, {"unit": ("record", "f")}),
            (layout.refines, {"other": Layout.flat(program=program)}), (program.function, {"name": "f"}),
            (program.parent, {"name": "f"}), (program.chain, {"name": "f"}), (program.variables, {"name": "f"}),
            (program.chain_things, {"name": "f"}), (program.uses, {"name": "f"}), (program.needs, {"name": "f"}),
            (program.captured, {"name": "main"}), (Run(program).kept, {"keeper": layout}),
        ):
            with self.subTest(what.__name__):
                self.same(what(**arguments), what(*arguments.values()))
        self.same(layout.with_link(name="f", on=False).choice(), layout.with_link("f", False).choice())
        self.same(layout.with_open(on=True, name="f").choice(), layout.with_open("f", True).choice())

    def test_runs_sessions_and_desks(self):
        one, other = Run(self.program), Run(self.program)
        self.same(one.handles[0](things=[1, 2], choices=[], takes=[0], last=True),
            other.handles[0]([1, 2], [], [0], True))
        self.same(one.world, other.world)
        one, other = Session(self.program), Session(self.program)
        for name, arguments in (("adopt", {"layout": self.layout}), ("improve", {"most": 1}), ("undo", {"count": 1}),
            ("redo", {"count": 1}), ("attempt", {"call": lambda trial: 5})):
            self.same(getattr(one, name)(**arguments), getattr(other, name)(*arguments.values()))
            self.same((one, one.undoable, one.redoable), (other, other.undoable, other.redoable))
        desk = desks.Desk(session=one)
        self.same(desk.run(line="price"), desks.Desk(other).run("price"))
        self.same(desk(line="layout"), desk("layout"))
        self.same(desks.answers(session=one, lines=["weigh f 2", "price"]),
            desks.answers(other, ["weigh f 2", "price"]))
        self.same(one, other)


if __name__ == "__main__":
    unittest.main()
