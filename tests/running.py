"""Points 11, 14 and 15 once more: a diagram run by its ports, and by the code of its compiled diagrams."""

import oracle
import portcheck
from stepblocks.blocks import Primitive
from stepblocks.texts import is_primitive

TOP = 2 ** 32
RULES = {
    "add": lambda a, b: [(a + b) % TOP], "sub": lambda a, b: [(a - b) % TOP], "mul": lambda a, b: [a * b % TOP],
    "less": lambda a, b: [int(a < b)], "equal": lambda a, b: [int(a == b)], "pick": lambda c, a, b: [a if c else b],
    "divide": lambda a, b: [a // b, a % b] if b else [0, a],
}


def first_state(diagrams, name):
    return {path: int(text.split()[1]) for path, text in portcheck.list_primitives(diagrams, name)
            if text.startswith("delay")}


def table_of(diagrams, name, state, row):
    """Return the values of all ports in an instant, found from each port backwards."""
    befores = {}
    for one, other in oracle.port_edges(diagrams, name):
        befores.setdefault(other, []).append(one)
    blocks = dict(portcheck.list_primitives(diagrams, name))
    table = {((), given): value for given, value in zip(diagrams[name].inputs, row)}

    def value_at(port):
        if port not in table:
            path, named = port
            word = blocks[path].split()[0] if path in blocks else ""
            known = Primitive.parse(blocks[path]) if word else None
            if not word or named in known.inputs:
                table[port] = value_at(befores[port][0])
            elif word == "delay":
                table[port] = state[path]
            elif word == "const":
                table[port] = int(blocks[path].split()[1])
            else:
                found = RULES[word](*[value_at((path, given)) for given in known.inputs])
                table[port] = found[known.outputs.index(named)]
        return table[port]

    for port in portcheck.list_ports(diagrams, name):
        value_at(port)
    return table


def state_after(state, table):
    return {path: table[(path, "in")] for path in state}


class CodeRun:
    """Runs the steps and the end of compiled diagrams, at every depth, and nothing else."""

    def __init__(self, library, name):
        self.diagram, self.code = library.diagram(name), library.compiled(name)
        self.parts = {part: CodePrimitive(block) if is_primitive(block) else CodeRun(library, block)
                      for part, block in self.diagram.parts}

    def call_step(self, number, given):
        """Return the outputs of a step, for a dict of its needs."""
        calls, results = self.code.steps[number]
        assert set(given) == set(self.code.profile[number][1])
        values = self.make_calls(calls, given)
        return {output: values[source] for output, source in results}

    def make_calls(self, calls, given):
        values = {("", name): value for name, value in given.items()}
        for part, number, arguments in calls:
            found = self.parts[part].call_step(number, {need: values[source] for need, source in arguments})
            values.update({(part, output): value for output, value in found.items()})
        return values

    def end(self, given):
        """Make the calls of the end; return what then changes delays, which happens only after all ends."""
        calls, feeds = self.code.end
        values = self.make_calls(calls, given)
        fed = {part: {} for part in self.parts}
        for part, name, source in feeds:
            fed[part][name] = values[source]
        return [change for part in self.parts for change in self.parts[part].end(fed[part])]

    def run(self, row):
        given = dict(zip(self.diagram.inputs, row))
        outputs = {}
        for number, (_, needs) in enumerate(self.code.profile):
            outputs.update(self.call_step(number, {need: given[need] for need in needs}))
        for delay, value in self.end(given):
            delay.held = value
        return tuple(outputs[output] for output in self.diagram.outputs)

    def state(self, path=()):
        found = {}
        for part, inner in self.parts.items():
            found.update(inner.state(path + (part,)))
        return found


class CodePrimitive:
    def __init__(self, text):
        self.word, _, constant = text.partition(" ")
        self.held = int(constant) if constant else None

    def call_step(self, number, given):
        assert number == 0
        if self.word in ("const", "delay"):
            assert given == {}
            return {"out": self.held}
        names = Primitive.parse(self.word)
        return dict(zip(names.outputs, RULES[self.word](*[given[name] for name in names.inputs])))

    def end(self, given):
        return [(self, given["in"])] if self.word == "delay" else []

    def state(self, path):
        return {path: self.held} if self.word == "delay" else {}
