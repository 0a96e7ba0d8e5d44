"""The work of a session: a program, a layout of it, and weights."""

from heldby.costs import Costs
from heldby.layouts import Layout
from heldby.rewriting import renamed_all
from heldby.weighing import loads_of


class Work:
    """A layout of a program, and weights of its used functions."""

    def __init__(self, layout, weights):
        self._layout = layout
        self._weights = {name: weights[name] for name in sorted(list(weights))}
        self._price = Costs(layout).total(loads_of(layout.program, weights))

    @property
    def program(self):
        """The program of the layout."""
        return self._layout.program

    @property
    def layout(self):
        """The layout."""
        return self._layout

    @property
    def weights(self):
        """A new dict of the weights, ascending by names."""
        return {name: self._weights[name] for name in self._weights}

    @property
    def price(self):
        """The price of the layout by the weights."""
        return self._price


def carried_work(change, work):
    """The work on the result of a change: all choices and weights stay that can stay."""
    result, names, layout = change.result, change.new_names(), work.layout
    captured = result.captured_owners
    bundles = []
    for bundle in layout.bundles:
        left = [name for name in renamed_all(bundle, names) if name in captured]
        if len(left) > 1:
            bundles.append(left)
    carried = Layout(
        result,
        bundles=bundles,
        linked=[name for name in renamed_all(layout.linked, names) if name in result.used],
        opened=[name for name in renamed_all(layout.opened, names) if name in result.used],
    )
    weights = {names.get(name, name): weight for name, weight in work.weights.items()}
    return Work(carried, {name: weights[name] for name in weights if name in result.used})
