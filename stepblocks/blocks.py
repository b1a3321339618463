"""Blocks: primitives and diagrams (points 4 to 7)."""

from stepblocks.errors import InvalidText
from stepblocks.reader import DiagramReader
from stepblocks.texts import MODULUS, PRIMITIVE_PORTS, diagram_rows, order_targets, read_primitive


def _add(a, b):
    return ((a + b) % MODULUS,)


def _sub(a, b):
    return ((a - b) % MODULUS,)


def _mul(a, b):
    return ((a * b) % MODULUS,)


def _less(a, b):
    return (1 if a < b else 0,)


def _equal(a, b):
    return (1 if a == b else 0,)


def _pick(c, a, b):
    return (b if c == 0 else a,)


def _divide(a, b):
    if b == 0:
        return (0, a)
    return (a // b, a % b)


RULES = {
    "add": _add,
    "sub": _sub,
    "mul": _mul,
    "less": _less,
    "equal": _equal,
    "pick": _pick,
    "divide": _divide,
}


class Block:
    """What primitives and diagrams have in common: a name, inputs and outputs."""

    def __init__(self, name, inputs, outputs):
        self.name = name
        self.inputs = inputs
        self.outputs = outputs


class Primitive(Block):
    """A primitive: name is its first word, constant is its value or None."""

    def __init__(self, name, constant):
        inputs, outputs = PRIMITIVE_PORTS[name]
        super().__init__(name, inputs, outputs)
        self.constant = constant

    @classmethod
    def parse(cls, text):
        """Return the primitive that is written so, or raise InvalidText."""
        found = read_primitive(text)
        if found is None:
            raise InvalidText(0)
        name, constant = found
        return cls(name, constant)

    @property
    def interface(self):
        """The inputs, the outputs and the profile (point 9)."""
        needs = () if self.name == "delay" else self.inputs
        return (self.inputs, self.outputs, ((self.outputs, needs),))

    def compute(self, values):
        """Return the tuple of the outputs for a tuple of values at the inputs; not for delays."""
        if self.name == "const":
            return (self.constant,)
        rule = RULES[self.name]
        return rule(*values)

    def __str__(self):
        if self.constant is None:
            return str(self.name)
        return f"{self.name} {self.constant}"


class Diagram(Block):
    """A diagram: parts are pairs (name, block), wires are pairs (target, source)."""

    MAX_PORTS = 8
    MAX_PARTS = 16

    def __init__(self, name, inputs, outputs, parts, wires):
        """Make a diagram of right values: parts are pairs, wires are a dict by targets, in any order."""
        super().__init__(name, inputs, outputs)
        self.parts = tuple(parts)
        ordered = order_targets(self.parts, outputs, wires)
        self.wires = tuple([(target, wires[target]) for target in ordered])

    @classmethod
    def parse(cls, text):
        """Return the diagram of a text form, or raise InvalidText."""
        rows = text.split("\n")
        reader = DiagramReader(cls.MAX_PORTS, cls.MAX_PARTS)
        for number, row in enumerate(rows):
            if not reader.take(row):
                raise InvalidText(number)
        if not reader.is_done:
            raise InvalidText(len(rows))
        return cls.of_reader(reader)

    @classmethod
    def of_reader(cls, reader):
        """Return the diagram that a reader has read to its end."""
        parts = [(part, reader.parts[part]) for part in reader.parts]
        return cls(reader.name, reader.inputs, reader.outputs, parts, reader.wires)

    def __eq__(self, other):
        # Not NotImplemented: no other value may tell that it is equal to a diagram.
        return isinstance(other, Diagram) and str(self) == str(other)

    def __str__(self):
        return "\n".join(diagram_rows(self.name, self.inputs, self.outputs, self.parts, self.wires))
