"""Nets: diagrams taken apart into primitives and wires (points 19 and 20)."""

from stepblocks.blocks import Diagram, Primitive
from stepblocks.circuits import Circuit, check_row, order_parts
from stepblocks.errors import BadNet, TooLarge
from stepblocks.flat import flatten
from stepblocks.ports import is_path, is_port
from stepblocks.texts import are_port_names, is_name, is_primitive

MOST_PARTS = 48
MOST_NAMES = 24


class Net:
    """Parts, each a primitive with its path, and wires between them; it never changes."""

    def __init__(self, inputs, outputs, parts, wires):
        self._fill(inputs, outputs, parts, wires)
        if len(parts) > MOST_PARTS:
            raise BadNet()

    def _fill(self, inputs, outputs, parts, wires):
        """Make this object the net of four values, which may be any values, or raise BadNet."""
        if not are_port_names(inputs, outputs, Diagram.MAX_PORTS) or not _are_parts(parts):
            raise BadNet()
        blocks = {path: Primitive.parse(text) for path, text in parts}
        if not _are_wires(wires, inputs, outputs, blocks) or len(order_parts(blocks, wires)) < len(parts):
            raise BadNet()
        self.inputs = inputs
        self.outputs = outputs
        self.parts = parts
        self.wires = wires
        self._paths = {path: True for path in blocks}

    @staticmethod
    def of(library, name):
        """Return the net of a diagram."""
        parts, wires = flatten(library, name)
        if len(parts) > MOST_PARTS:
            raise TooLarge(len(parts))
        diagram = library.diagram(name)
        return Net(diagram.inputs, diagram.outputs, parts, wires)

    @staticmethod
    def wide(inputs, outputs, parts, wires):
        """Return the net of four values, which may be any values, with any number of parts, or raise BadNet."""
        # Nobody else has this object yet when it becomes another net.
        net = Net((), (), (), ())
        net._fill(inputs, outputs, parts, wires)
        return net

    def __call__(self, history):
        """Return the list of the rows of outputs for a list of rows of inputs."""
        for row in history:
            check_row(self.inputs, row)
        circuit = Circuit(self.inputs, self.outputs, self.parts, self.wires)
        held = circuit.first_values
        answers = []
        for row in history:
            outputs, held = circuit.answer(held, row)
            answers.append(outputs)
        return answers

    def __eq__(self, other):
        if not isinstance(other, Net) or self.inputs != other.inputs or self.outputs != other.outputs:
            return False
        return self.parts == other.parts and self.wires == other.wires

    def __len__(self):
        return len(self.parts)

    def __contains__(self, path):
        return is_path(path) and path in self._paths


def _are_parts(value):
    """Tell whether a value, which may be any value, is a tuple of parts with different paths."""
    if not isinstance(value, tuple) or not all([_is_part(part) for part in value]):
        return False
    return len({path for path, _ in value}) == len(value)


def _is_part(value):
    if not isinstance(value, tuple) or len(value) != 2:
        return False
    path, text = value
    if not isinstance(path, tuple) or not 1 <= len(path) <= MOST_NAMES or not all([is_name(name) for name in path]):
        return False
    return isinstance(text, str) and is_primitive(text)


def _are_wires(value, inputs, outputs, blocks):
    """Tell whether a value, which may be any value, is a tuple with one wire for each target, in their order."""
    targets = [(path, name) for path in blocks for name in blocks[path].inputs]
    targets += [((), name) for name in outputs]
    if not isinstance(value, tuple) or len(value) != len(targets):
        return False
    sources = {((), name): True for name in inputs}
    sources.update({(path, name): True for path in blocks for name in blocks[path].outputs})
    for wire, target in zip(value, targets):
        if not isinstance(wire, tuple) or len(wire) != 2 or wire[0] != target:
            return False
        if not is_port(wire[1]) or wire[1] not in sources:
            return False
    return True
