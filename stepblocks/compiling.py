"""Diagrams compiled from the interfaces of their parts alone (points 9 to 11)."""

from stepblocks.blocks import Diagram, Primitive
from stepblocks.errors import BadDiagram, BadInterface, Cycle, UnknownBlock
from stepblocks.graphs import find_ring
from stepblocks.texts import are_port_names, is_primitive


def is_interface(value):
    """Tell whether a value, which may be any value, is an interface as in point 10."""
    if not isinstance(value, tuple) or len(value) != 3:
        return False
    inputs, outputs, profile = value
    if not are_port_names(inputs, outputs, Diagram.MAX_PORTS) or not isinstance(profile, tuple):
        return False
    if not all([_is_step_function(step, inputs, outputs) for step in profile]):
        return False
    firsts = [outputs.index(names[0]) for names, _ in profile]
    named = [name for names, _ in profile for name in names]
    return firsts == sorted(firsts) and sorted(named) == sorted(outputs)


def _is_step_function(value, inputs, outputs):
    if not isinstance(value, tuple) or len(value) != 2:
        return False
    names, needs = value
    return _is_selection(names, outputs) and len(names) > 0 and _is_selection(needs, inputs)


def _is_selection(value, names):
    """Tell whether a value is a tuple of some of the names, in their order."""
    return isinstance(value, tuple) and list(value) == [name for name in names if name in value]


class Compiled:
    """A compiled diagram: its interface, its steps and its end (points 9 and 11)."""

    def __init__(self, inputs, outputs, profile, steps, end):
        self.inputs = inputs
        self.outputs = outputs
        self.profile = profile
        self.steps = steps
        self.end = end

    @property
    def interface(self):
        """The inputs, the outputs and the profile."""
        return (self.inputs, self.outputs, self.profile)


def needs_by_output(profile):
    """Return a dict from the outputs to the inputs that they need, for a profile."""
    return {output: needs for outputs, needs in profile for output in outputs}


def compile_diagram(diagram, interfaces):
    """Return the Compiled of a diagram, from a dict of the interfaces of other diagrams."""
    faces = _part_interfaces(diagram, interfaces)
    check_wires(diagram, faces)
    sources = {target: source for target, source in diagram.wires}
    order, reach = _order_calls(diagram, faces, _list_calls(diagram, faces, sources))
    profile = _make_profile(diagram, sources, reach)
    steps = [_make_step(outputs, sources, order, faces) for outputs, _ in profile]
    feeds = [(target[0], target[1], source) for target, source in diagram.wires if target[0]]
    end = (tuple(order), tuple(feeds))
    return Compiled(diagram.inputs, diagram.outputs, profile, tuple(steps), end)


def _part_interfaces(diagram, interfaces):
    """Return the interface of the block of each part, by the name of the part."""
    named = [block for _, block in diagram.parts if not is_primitive(block)]
    for block in named:
        if block not in interfaces:
            raise UnknownBlock(block)
    for block in named:
        if not is_interface(interfaces[block]):
            raise BadInterface(block)
    return {part: _block_interface(block, interfaces) for part, block in diagram.parts}


def _block_interface(block, interfaces):
    if is_primitive(block):
        return Primitive.parse(block).interface
    return interfaces[block]


def check_wires(diagram, faces):
    """Raise BadDiagram if a wire leads from or to no port, or else if a target has no wire.

    faces is a dict from the name of each part to a tuple that begins with its inputs and its outputs.
    """
    targets = {(part, name): True for part in faces for name in faces[part][0]}
    sources = {(part, name): True for part in faces for name in faces[part][1]}
    targets.update({("", name): True for name in diagram.outputs})
    sources.update({("", name): True for name in diagram.inputs})
    wired = {}
    for target, source in diagram.wires:
        wired[target] = True
        if target not in targets:
            raise BadDiagram(diagram.name, target, "unknown port")
        if source not in sources:
            raise BadDiagram(diagram.name, source, "unknown port")
    for target in targets:
        if target not in wired:
            raise BadDiagram(diagram.name, target, "no source")


def _list_calls(diagram, faces, sources):
    """Return the calls of all parts, by the position of the part and then by number."""
    calls = []
    for part, _ in diagram.parts:
        for number, (_, needs) in enumerate(faces[part][2]):
            arguments = [(need, sources[(part, need)]) for need in needs]
            calls.append((part, number, tuple(arguments)))
    return calls


def _call_outputs(call, faces):
    """Return the list of the ports to which a call gives values."""
    part, number, _ = call
    return [(part, name) for name in faces[part][2][number][0]]


def _order_calls(diagram, faces, calls):
    """Return the calls in the order of point 11, and a dict of the inputs that reach each source."""
    reach = {("", name): (name,) for name in diagram.inputs}
    order, left = [], list(calls)
    while left:
        call = _first_ready(left, reach)
        if call is None:
            raise Cycle(diagram.name, _find_cycle(left, faces, reach))
        left.remove(call)
        order.append(call)
        needs = _inputs_reaching(call, diagram.inputs, reach)
        for port in _call_outputs(call, faces):
            reach[port] = needs
    return order, reach


def _first_ready(calls, reach):
    """Return the first call all of whose sources are inputs or outputs of calls made before, or None."""
    for call in calls:
        if all([source in reach for _, source in call[2]]):
            return call
    return None


def _inputs_reaching(call, inputs, reach):
    """Return the tuple of the inputs from which a path leads to a call."""
    found = {name: True for _, source in call[2] for name in reach[source]}
    return tuple([name for name in inputs if name in found])


def _find_cycle(left, faces, reach):
    """Return a cycle of step functions among calls each of which waits for another one of them."""
    makers = {port: (call[0], call[1]) for call in left for port in _call_outputs(call, faces)}
    waits_for = {}
    for part, number, arguments in left:
        missing = [source for _, source in arguments if source not in reach]
        waits_for[(part, number)] = makers[missing[0]]
    # The walk goes against the edges.
    return list(reversed(find_ring((left[0][0], left[0][1]), waits_for)))


def _make_profile(diagram, sources, reach):
    """Return the tuple of step functions (outputs, needs) of point 9."""
    groups = {}
    for output in diagram.outputs:
        needs = reach[sources[("", output)]]
        groups.setdefault(needs, []).append(output)
    return tuple([(tuple(groups[needs]), needs) for needs in groups])


def _make_step(outputs, sources, order, faces):
    """Return the step (calls, results) of point 11 for one step function of the profile."""
    results = [(output, sources[("", output)]) for output in outputs]
    wanted = {source: True for _, source in results}
    needed = []
    # Going backwards meets each call after all calls that use its outputs.
    for call in reversed(order):
        if any([port in wanted for port in _call_outputs(call, faces)]):
            needed.append(call)
            wanted.update({source: True for _, source in call[2]})
    # Leaving out calls that are not needed keeps the order: no needed call waits for one of them.
    return (tuple(reversed(needed)), tuple(results))
