"""Diagrams without nested diagrams (point 8)."""

from stepblocks.blocks import Primitive
from stepblocks.graphs import sort_nodes
from stepblocks.ports import port_graph
from stepblocks.texts import is_primitive


def flatten(library, name):
    """Return the primitives of a diagram, with their paths, and the wires between them."""
    # The graph comes first because it raises the errors.
    befores = port_graph(library, name)
    parts = _list_primitives(library, name, ())
    blocks = [(path, Primitive.parse(text)) for path, text in parts]
    diagram = library.diagram(name)
    origins = _find_origins(befores, diagram.inputs, blocks)
    targets = [(path, given) for path, block in blocks for given in block.inputs]
    targets += [((), output) for output in diagram.outputs]
    return tuple(parts), tuple([(target, origins[target]) for target in targets])


def _list_primitives(library, name, path):
    """Return the list of the pairs (path, text) of all primitives of a diagram that stands at a path."""
    found = []
    for part, block in library.diagram(name).parts:
        below = path + (part,)
        if is_primitive(block):
            found.append((below, block))
        else:
            found.extend(_list_primitives(library, block, below))
    return found


def _find_origins(befores, inputs, blocks):
    """Return a dict from each port to the input of the diagram, or output of a primitive, that gives it its value."""
    origins = {((), given): ((), given) for given in inputs}
    for path, block in blocks:
        origins.update({(path, output): (path, output) for output in block.outputs})
    for port in sort_nodes(befores):
        if port not in origins:
            # All other ports are ends of wires: exactly one edge leads to each of them.
            origins[port] = origins[befores[port][0]]
    return origins
