"""The reader of the text form of a diagram (point 7)."""

from stepblocks.texts import is_diagram_name, is_name, is_primitive, read_head


class DiagramReader:
    """Takes the rows of one diagram, one by one, and keeps what they tell."""

    def __init__(self, max_ports, max_parts):
        self.name = None
        self.inputs = ()
        self.outputs = ()
        self.parts = {}
        self.wires = {}
        self.is_done = False
        self._max_ports = max_ports
        self._max_parts = max_parts

    def take(self, row):
        """Take the next row and return True, or False if no text has it after the rows before."""
        if self.name is None:
            return self._take_head(row)
        if self.is_done:
            return False
        if row == "end":
            self.is_done = True
            return True
        # No wire begins like this, because no name is "part".
        if row.startswith("  part "):
            return not self.wires and self._take_part(row)
        return self._take_wire(row)

    def _take_head(self, row):
        head = read_head(row)
        if head is None:
            return False
        name, inputs, outputs = head
        ports = inputs + outputs
        if len(inputs) > self._max_ports or len(outputs) > self._max_ports:
            return False
        if not is_diagram_name(name) or not all([is_name(port) for port in ports]):
            return False
        if len(set(ports)) != len(ports):
            return False
        self.name, self.inputs, self.outputs = name, inputs, outputs
        return True

    def _take_part(self, row):
        name, _, block = row.removeprefix("  part ").partition(" = ")
        if len(self.parts) >= self._max_parts or not is_name(name) or name in self.parts:
            return False
        if not is_primitive(block) and not is_diagram_name(block):
            return False
        self.parts[name] = block
        return True

    def _take_wire(self, row):
        if not row.startswith("  "):
            return False
        before, _, behind = row.removeprefix("  ").partition(" <- ")
        target = self._read_port(before, self.outputs)
        source = self._read_port(behind, self.inputs)
        if target is None or source is None or target in self.wires:
            return False
        self.wires[target] = source
        return True

    def _read_port(self, text, own_names):
        """Return the port that is written so, or None if none is declared."""
        part, dot, name = text.partition(".")
        if not dot:
            return ("", text) if text in own_names else None
        return (part, name) if part in self.parts and is_name(name) else None
