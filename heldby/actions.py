"""What the lines of a desk do: functions of a session and of what a line tells, which return the answer."""

from heldby.changes import Lifting, Pruning, Renaming, Sinking
from heldby.errors import UnknownName
from heldby.growth import growth
from heldby.keepers import Plain
from heldby.layouts import Layout
from heldby.prices import mends
from heldby.texts import keeper_table, write_keeper, write_layout, write_program

DONE = "ok"
NOTHING = "-"


def _bundle(session, told):
    _check_captured(session, told)
    layout = session.layout
    for name in told[1:]:
        layout = layout.joined(told[0], name)
    session.adopt(layout)
    return DONE


def _alone(session, told):
    _check_captured(session, told)
    layout = session.layout
    left = [[name for name in bundle if name not in told] for bundle in layout.bundles]
    bundles = [bundle for bundle in left if len(bundle) > 1]
    session.adopt(Layout(session.program, bundles=bundles, linked=layout.linked, opened=layout.opened))
    return DONE


def _check_captured(session, names):
    owners = session.program.captured_owners
    for name in names:
        if name not in owners:
            raise UnknownName(name)


def _link(session, told):
    session.adopt(session.layout.with_link(told[0], True))
    return DONE


def _unlink(session, told):
    session.adopt(session.layout.with_link(told[0], False))
    return DONE


def _open(session, told):
    session.adopt(session.layout.with_open(told[0], True))
    return DONE


def _shut(session, told):
    session.adopt(session.layout.with_open(told[0], False))
    return DONE


def _weigh(session, told):
    session.weigh_all({told[0]: told[1]})
    return DONE


def _unweigh(session, told):
    session.weigh_all({told[0]: None})
    return DONE


def _rename(session, told):
    session.apply(Renaming(session.program, {told[0]: told[1]}))
    return DONE


def _prune(session, told):
    program = session.program
    session.apply(Pruning(program, *told))
    return DONE


def _lift(session, told):
    session.apply(Lifting(session.program, told[0], told[1], told[2]))
    return DONE


def _sink(session, told):
    session.apply(Sinking(session.program, told[0], told[1]))
    return DONE


def _undo(session, _):
    session.undo()
    return DONE


def _redo(session, _):
    session.redo()
    return DONE


def _improve(session, told):
    return str(session.improve(told[0] if told else 0))


def _mend(session, _):
    layout = session.layout
    found = mends(layout)
    if not found:
        return NOTHING
    word, mended = found[0]
    if word == "split":
        session.adopt(layout.unbundled(layout.bundles.index(mended)))
    elif word == "unlink":
        session.adopt(layout.with_link(mended, False))
    else:
        session.adopt(layout.with_open(mended, True))
    return _written_mend(found[0])


def _written_mend(mend):
    word, mended = mend
    return " ".join([word, *mended]) if word == "split" else word + " " + mended


def _program(session, _):
    return write_program(session.program)


def _layout(session, _):
    return write_layout(session.layout)


def _keeper(session, _):
    return write_keeper(session.layout)


def _table(session, _):
    return keeper_table(session.layout, Plain(session.program))


def _price(session, _):
    return str(session.price)


def _growth(session, _):
    many = growth(session.layout, Plain(session.program))
    return NOTHING if many is None else str(many)


def _mends(session, _):
    return "\n".join([_written_mend(mend) for mend in mends(session.layout)]) or NOTHING


def _closure(session, told):
    return " ".join(session.layout.closure(told[0])) or NOTHING


def _frame(session, told):
    return " ".join(session.layout.frame(told[0], told[1])) or NOTHING


ACTIONS = {
    "bundle": _bundle, "alone": _alone, "link": _link, "unlink": _unlink, "open": _open, "shut": _shut,
    "weigh": _weigh, "unweigh": _unweigh, "rename": _rename, "prune": _prune, "lift": _lift, "sink": _sink,
    "undo": _undo, "redo": _redo, "improve": _improve, "mend": _mend, "program": _program, "layout": _layout,
    "keeper": _keeper, "table": _table, "price": _price, "growth": _growth, "mends": _mends, "closure": _closure,
    "frame": _frame,
}


def answer_of(session, word, told):
    """Does what a line tells; the answer."""
    action = ACTIONS[word]
    return action(session, told)
