"""Primitives and the wires between them, computed instant by instant (points 14 and 15)."""

from stepblocks.blocks import Primitive
from stepblocks.errors import BadState, BadValue, WrongCount
from stepblocks.graphs import sort_nodes
from stepblocks.texts import is_value


def check_row(inputs, row):
    """Raise WrongCount or BadValue if a row is not a value for each input."""
    if len(row) != len(inputs):
        raise WrongCount(len(inputs))
    for name, value in zip(inputs, row):
        if not is_value(value):
            raise BadValue(name)


def check_state(first_values, state):
    """Raise BadState if a dict is not a value for each of the delays that have these first values."""
    for path in first_values:
        if path not in state:
            raise BadState(path)
    for path in state:
        if path not in first_values or not is_value(state[path]):
            raise BadState(path)


def order_parts(blocks, wires):
    """Return the paths of the primitives, each one that is no delay behind those from which its inputs come.

    blocks is a dict from the paths to the primitives. Those on a cycle that passes no delay are left out.
    """
    befores = {path: [] for path in blocks}
    for (path, _), (origin, _) in wires:
        # The path () is that of inputs and outputs of the whole.
        if path and origin and blocks[path].name != "delay":
            befores[path].append(origin)
    return sort_nodes(befores)


class Circuit:
    """Primitives, by their paths, and wires between them; no cycle of wires lacks a delay. It never changes."""

    def __init__(self, inputs, outputs, parts, wires):
        blocks = {path: Primitive.parse(text) for path, text in parts}
        sources = {target: source for target, source in wires}
        delays = [path for path in blocks if blocks[path].name == "delay"]
        self.inputs = inputs
        self.first_values = {path: blocks[path].constant for path in delays}
        self.results = {output: sources[((), output)] for output in outputs}
        self.jobs = [_make_job(path, blocks[path], sources) for path in order_parts(blocks, wires)
                     if blocks[path].name != "delay"]
        self._feeds = {path: sources[(path, "in")] for path in delays}

    def begin(self, held):
        """Return a dict of the values that are known as an instant begins, for a dict of those that delays hold."""
        return {(path, "out"): held[path] for path in held}

    def follow(self, known, jobs):
        """Return the known values with those that follow from them, and the jobs that wait for others."""
        found = {port: known[port] for port in known}
        waiting = []
        for block, sources, ports in jobs:
            if all([source in found for source in sources]):
                outputs = block.compute(tuple([found[source] for source in sources]))
                for port, value in zip(ports, outputs):
                    found[port] = value
            else:
                waiting.append((block, sources, ports))
        return found, waiting

    def outputs_of(self, known):
        """Return the tuple of the outputs in an instant in which all values are known."""
        return tuple([known[self.results[output]] for output in self.results])

    def held_after(self, known):
        """Return the dict of the values that delays hold behind an instant in which all values are known."""
        return {path: known[self._feeds[path]] for path in self._feeds}

    def answer(self, held, row):
        """Return the outputs for a row, and what delays hold behind this instant."""
        begun = self.begin(held)
        for name, value in zip(self.inputs, row):
            begun[((), name)] = value
        known, _ = self.follow(begun, self.jobs)
        return self.outputs_of(known), self.held_after(known)


def _make_job(path, block, sources):
    """Return a primitive with the sources of its inputs and the ports of its outputs."""
    given = [sources[(path, name)] for name in block.inputs]
    return (block, given, [(path, name) for name in block.outputs])
