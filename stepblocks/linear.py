"""Linear nets (points 32 and 33)."""

from stepblocks.blocks import Primitive
from stepblocks.circuits import Circuit, check_row, check_state, order_parts
from stepblocks.errors import NotLinear, OtherPorts
from stepblocks.least import least_net
from stepblocks.packing import Packing

# A state behind fewer instants than this for each part is found by running the net.
FEW = 4


def _check_linear(net):
    """Raise NotLinear if a net is not linear."""
    blocks = {path: Primitive.parse(text) for path, text in net.parts}
    by_const = {target[0]: True for target, source in net.wires if _is_const(blocks, source)}
    for path in blocks:
        word = blocks[path].name
        if word not in ("const", "add", "sub", "delay") and not (word == "mul" and path in by_const):
            raise NotLinear(path)


def _circuit_of(net):
    return Circuit(net.inputs, net.outputs, net.parts, net.wires)


def first_history(net, other):
    """Return None if two linear nets answer each history equally, otherwise a shortest one whose last rows differ."""
    if net.inputs != other.inputs or net.outputs != other.outputs:
        raise OtherPorts()
    _check_linear(net)
    _check_linear(other)
    zeros = tuple([0 for _ in net.inputs])
    firsts = [zeros] + [zeros[:place] + (1,) + zeros[place + 1:] for place in range(len(zeros))]
    # Least nets answer alike, and have fewer delays: that many instants tell everything.
    one, two = _circuit_of(least_net(net)), _circuit_of(least_net(other))
    runs = [(row, row, one.first_values, two.first_values) for row in firsts]
    for instant in range(len(one.first_values) + len(two.first_values) + 1):
        onward = []
        for first, row, held, second in runs:
            outputs, held = one.answer(held, row)
            other_outputs, second = two.answer(second, row)
            if outputs != other_outputs:
                return [first] + [zeros for _ in range(instant)]
            onward.append((first, zeros, held, second))
        runs = onward
    return None


def state_at(net, row, instant):
    """Return the state of a linear net ahead of an instant if all rows ahead of it are the same."""
    _check_linear(net)
    check_row(net.inputs, row)
    circuit = _circuit_of(net)
    held = circuit.first_values
    if instant <= FEW * len(net):
        for _ in range(instant):
            held = circuit.answer(held, row)[1]
        return {path: held[path] for path in held}
    # The last place is that of the number 1, which stays as it is.
    packing = Packing(len(held) + 1)
    values = packing.apply_often(_list_rules(net, row, packing), list(held.values()) + [1], instant)
    return {path: value for path, value in zip(held, values)}


def _list_rules(net, row, packing):
    """Return the rows that tell what delays hold behind an instant, and at last 1, from what they held before and 1."""
    blocks = {path: Primitive.parse(text) for path, text in net.parts}
    delays = [path for path in blocks if blocks[path].name == "delay"]
    one = len(delays)
    sources = {target: source for target, source in net.wires}
    rules = {((), name): packing.unit(one, value) for name, value in zip(net.inputs, row)}
    rules.update({(path, "out"): packing.unit(place, 1) for place, path in enumerate(delays)})
    for path in order_parts(blocks, net.wires):
        word = blocks[path].name
        if word == "const":
            rules[(path, "out")] = packing.unit(one, blocks[path].constant)
        elif word != "delay":
            first, second = sources[(path, "a")], sources[(path, "b")]
            if word == "add":
                rules[(path, "out")] = packing.plus(rules[first], rules[second])
            elif word == "sub":
                rules[(path, "out")] = packing.minus(rules[first], rules[second])
            elif _is_const(blocks, first):
                rules[(path, "out")] = packing.times(rules[second], blocks[first[0]].constant)
            else:
                rules[(path, "out")] = packing.times(rules[first], blocks[second[0]].constant)
    return [rules[sources[(path, "in")]] for path in delays] + [packing.unit(one, 1)]


def _is_const(blocks, source):
    """Tell whether a source is the output of a const."""
    # No part has the path of the inputs.
    return source[0] in blocks and blocks[source[0]].name == "const"


def told_apart(net, state, second):
    """Return None if two states lead to the same outputs for all rows, otherwise the first instant that parts them.

    All rows are zeros there.
    """
    _check_linear(net)
    circuit = _circuit_of(net)
    check_state(circuit.first_values, state)
    check_state(circuit.first_values, second)
    zeros = tuple([0 for _ in net.inputs])
    for instant in range(len(circuit.first_values)):
        outputs, state = circuit.answer(state, zeros)
        other_outputs, second = circuit.answer(second, zeros)
        if outputs != other_outputs:
            return instant
    return None
