"""The diagrams of a library, checked and compiled together (points 10, 12 and 13)."""

from stepblocks.blocks import Primitive
from stepblocks.compiling import check_wires, compile_diagram
from stepblocks.errors import Recursion, UnknownBlock
from stepblocks.graphs import find_ring
from stepblocks.texts import is_primitive


def build_diagrams(diagrams, before, known):
    """Return the names in build order, a dict of the Compiled of each name, and the names that were compiled.

    diagrams is a dict of all diagrams, by ascending names; before and known are the diagrams that the library had
    so far and their Compiled. Raises the errors that wrong diagrams have, in their order.
    """
    _check_blocks(diagrams)
    order = _order_names(diagrams)
    _check_ports(diagrams)
    compiled, rebuilt = {}, []
    for name in order:
        diagram = diagrams[name]
        if name in before and diagram == before[name] and not _has_other_profiles(diagram, known, compiled):
            compiled[name] = known[name]
        else:
            interfaces = {block: compiled[block].interface for block in _inner_blocks(diagram)}
            compiled[name] = compile_diagram(diagram, interfaces)
            rebuilt.append(name)
    return tuple(order), compiled, tuple(rebuilt)


def _inner_blocks(diagram):
    """Return the names of the diagrams that are blocks of parts, in the order of the parts."""
    return [block for _, block in diagram.parts if not is_primitive(block)]


def _has_other_profiles(diagram, known, compiled):
    """Tell whether the profile of the block of a part is not the one that it was."""
    return any([compiled[block].profile != known[block].profile for block in _inner_blocks(diagram)])


def _check_blocks(diagrams):
    """Raise UnknownBlock if the block of a part is missing."""
    for name in diagrams:
        for block in _inner_blocks(diagrams[name]):
            if block not in diagrams:
                raise UnknownBlock(block)


def _order_names(diagrams):
    """Return the names in build order, or raise Recursion."""
    order, left = [], list(diagrams)
    while left:
        ready = [name for name in left if not _waiting_for(diagrams[name], left)]
        if not ready:
            raise Recursion(_find_chain(diagrams, left))
        # The names are ascending, so the first one is the smallest.
        order.append(ready[0])
        left.remove(ready[0])
    return order


def _waiting_for(diagram, left):
    """Return the blocks of parts that are among the names that are left."""
    return [block for block in _inner_blocks(diagram) if block in left]


def _find_chain(diagrams, left):
    """Return a chain of diagrams that contain each other, where each one that is left waits for one of them."""
    follows = {name: _waiting_for(diagrams[name], left)[0] for name in left}
    return find_ring(left[0], follows)


def _check_ports(diagrams):
    """Raise BadDiagram for the first diagram whose wires do not fit the ports of its parts."""
    for name in diagrams:
        ports = {part: _block_ports(block, diagrams) for part, block in diagrams[name].parts}
        check_wires(diagrams[name], ports)


def _block_ports(block, diagrams):
    """Return the inputs and the outputs of a block of a part."""
    found = Primitive.parse(block) if is_primitive(block) else diagrams[block]
    return (found.inputs, found.outputs)
