"""Diagrams around a block that tell what its profile must not become (points 17 and 18)."""

from stepblocks.blocks import Diagram
from stepblocks.compiling import needs_by_output
from stepblocks.errors import OtherPorts, UnknownPort


def surrounding_for(library, name, first, second, *, called):
    """Return the diagram that is refused if one step function computes two outputs; None if their needs are equal."""
    diagram = library.diagram(name)
    for output in (first, second):
        if output not in diagram.outputs:
            raise UnknownPort(output)
    needs = needs_by_output(library.compiled(name).profile)
    for given in diagram.inputs:
        if (given in needs[first]) != (given in needs[second]):
            other = second if given in needs[first] else first
            return _make_surrounding(diagram, other, given, called)
    return None


def _make_surrounding(block, output, given, called):
    """Return the diagram with one part of a block, of which an output is connected to an input."""
    inputs = tuple([name for name in block.inputs if name != given])
    wires = {("inner", name): ("", name) for name in inputs}
    wires[("inner", given)] = ("inner", output)
    for name in block.outputs:
        wires[("", name)] = ("inner", name)
    return Diagram(called, inputs, block.outputs, [("inner", block.name)], wires)


def merged(interface, first, second):
    """Return the interface in which the step functions of two outputs are one."""
    inputs, outputs, profile = interface
    joined = [step for step in profile if first in step[0] or second in step[0]]
    if len(joined) == 1:
        return interface
    names = [name for step in joined for name in step[0]]
    needs = [name for step in joined for name in step[1]]
    whole = (tuple([name for name in outputs if name in names]), tuple([name for name in inputs if name in needs]))
    # The first one of the two steps has the first output of both, and so its place.
    steps = [whole if step == joined[0] else step for step in profile if step != joined[1]]
    return (inputs, outputs, tuple(steps))


def can_replace(library, old, new):
    """Tell whether a diagram can stand for another one wherever this is used."""
    return _find_more(library, old, new) is None


def breaking(library, old, new, *, called):
    """Return a diagram that is accepted with the old block and refused with the new one, or None if there is none."""
    more = _find_more(library, old, new)
    if more is None:
        return None
    output, given = more
    return _make_surrounding(library.diagram(old), output, given, called)


def _find_more(library, old, new):
    """Return the first output that needs more in the new block, and the first input that it needs more, or None."""
    former, latter = library.diagram(old), library.diagram(new)
    for names, others in ((former.inputs, latter.inputs), (former.outputs, latter.outputs)):
        if sorted(names) != sorted(others):
            raise OtherPorts()
    needs = needs_by_output(library.compiled(old).profile)
    needs_of_new = needs_by_output(library.compiled(new).profile)
    for output in former.outputs:
        for given in former.inputs:
            if given in needs_of_new[output] and given not in needs[output]:
                return (output, given)
    return None


def replaced(diagram, old, new):
    """Return the diagram in which each part whose block is old has the block new."""
    parts = [(part, new if block == old else block) for part, block in diagram.parts]
    wires = {target: source for target, source in diagram.wires}
    return Diagram(diagram.name, diagram.inputs, diagram.outputs, parts, wires)
