"""Runs of nets whose parts are moved ahead on the way (point 36)."""

from stepblocks.circuits import Circuit, check_row
from stepblocks.errors import NotGood, UnknownMark, UnknownPart
from stepblocks.least import least_net
from stepblocks.lines import are_good, moved_net
from stepblocks.nets import Net
from stepblocks.origins import list_origins
from stepblocks.ports import is_path
from stepblocks.texts import is_integer


class NetRun:
    """A run of a net, which has a net of now."""

    def __init__(self, net):
        self._marks = []
        self._take(net)
        self._moved = _no_moves(net)

    def _take(self, net):
        """Go on with a net of now."""
        self._net = net
        self._circuit = Circuit(net.inputs, net.outputs, net.parts, net.wires)
        self._held = self._circuit.first_values

    def now(self):
        """Return the net of now."""
        parts = [(path, f"delay {self._held[path]}" if path in self._held else text) for path, text in self._net.parts]
        return Net.wide(self._net.inputs, self._net.outputs, tuple(parts), self._net.wires)

    def go(self, row):
        """Answer a row, and return the tuple of the outputs."""
        check_row(self._net.inputs, row)
        outputs, self._held = self._circuit.answer(self._held, row)
        return outputs

    def lead(self, path):
        """Move a part ahead."""
        if not is_path(path) or path not in self._moved:
            raise UnknownPart(path)
        net = self.now()
        moves = _no_moves(net)
        moves[path] = 1
        if not are_good(net, moves):
            raise NotGood()
        self._take(moved_net(net, moves))
        self._moved = {part: self._moved[part] + moves[part] for part in self._moved}

    def leads(self):
        """Return a dict from the parts to how often they were moved ahead."""
        return {path: self._moved[path] for path in self._moved}

    def shrink(self):
        """Go on with a least net of the net of now."""
        self._take(least_net(self.now()))
        self._moved = _no_moves(self._net)

    def mark(self):
        """Set a mark and return its number."""
        self._marks.append((self._net, self._circuit, self._held, self._moved))
        return len(self._marks) - 1

    def back(self, number):
        """Go back to a mark, whose number may be any value; later marks end."""
        if not is_integer(number) or not 0 <= number < len(self._marks):
            raise UnknownMark(number)
        self._marks = self._marks[:number + 1]
        self._net, self._circuit, self._held, self._moved = self._marks[number]


def _no_moves(net):
    """Return a dict from the parts other than consts and delays to 0."""
    origins = list_origins(net)
    return {path: 0 for path, name in origins if origins[(path, name)].is_rule}
