"""The graph of the ports of a diagram, at every depth (points 8 and 9)."""

from stepblocks.blocks import Primitive
from stepblocks.errors import TooLarge, UnknownPort
from stepblocks.graphs import sort_nodes
from stepblocks.texts import is_integer, is_primitive

MOST_PARTS = 256


def count_parts(library, name):
    """Return the number of the parts of a diagram, at all depths."""
    diagram = library.diagram(name)
    counts = {}
    for block in library.build_order():
        counts[block] = _count_within(library.diagram(block), counts)
    return _count_within(diagram, counts)


def _count_within(diagram, counts):
    """Return the number of the parts of a diagram; counts has those of the blocks of its parts."""
    # No diagram has the text of a primitive as its name.
    return sum([1 + counts.get(block, 0) for _, block in diagram.parts])


def check_size(library, name):
    """Raise UnknownBlock, or TooLarge if the diagram has too many parts."""
    count = count_parts(library, name)
    if count > MOST_PARTS:
        raise TooLarge(count)


def is_path(value):
    """Tell whether a value, which may be any value, is a tuple of strings."""
    return isinstance(value, tuple) and all([isinstance(name, str) for name in value])


def is_port(value):
    """Tell whether a value, which may be any value, is a pair of a path and a string."""
    return isinstance(value, tuple) and len(value) == 2 and is_path(value[0]) and isinstance(value[1], str)


def port_graph(library, name):
    """Return a dict from each port to the list of the ports from which an edge leads to it.

    Raises UnknownBlock, then TooLarge.
    """
    check_size(library, name)
    diagram = library.diagram(name)
    befores = {((), given): [] for given in diagram.inputs}
    left = [((), diagram)]
    while left:
        path, inner = left.pop()
        for target, source in inner.wires:
            befores[_port_below(path, target)] = [_port_below(path, source)]
        for part, block in inner.parts:
            below = path + (part,)
            if is_primitive(block):
                befores.update(_primitive_edges(below, Primitive.parse(block)))
            else:
                left.append((below, library.diagram(block)))
    return befores


def _port_below(path, port):
    """Return a port of a wire as a port of the graph, for a wire of the diagram at a path."""
    part, name = port
    return (path + (part,), name) if part else (path, name)


def _primitive_edges(path, block):
    """Return a dict from the outputs of a primitive to its inputs, but to none for a delay."""
    given = [] if block.name == "delay" else [(path, name) for name in block.inputs]
    return {(path, name): list(given) for name in block.outputs}


def port_order(library, name):
    """Return a list of all ports in which every edge leads from an earlier port to a later one."""
    return sort_nodes(port_graph(library, name))


def is_port_order(library, name, value):
    """Tell whether a value, which may be any value, is a list as port_order returns it."""
    befores = port_graph(library, name)
    if not _are_ports_once(value, befores) or len(value) != len(befores):
        return False
    places = {port: place for place, port in enumerate(value)}
    return all([places[before] < places[port] for port in befores for before in befores[port]])


def _are_ports_once(value, befores):
    """Tell whether a value, which may be any value, is a list of ports of a graph in which none occurs twice."""
    if not isinstance(value, list) or not all([is_port(port) and port in befores for port in value]):
        return False
    return len(set(value)) == len(value)


def cone(library, name, output):
    """Return a list of pairs (port, feeds) of all ports from which a path leads to an output."""
    befores = _graph_with(library, name, output)
    first = ((), output)
    listed = {first: True}
    found = [(first, -1)]
    done = 0
    while done < len(found):
        port, _ = found[done]
        for before in befores[port]:
            if before not in listed:
                listed[before] = True
                found.append((before, done))
        done += 1
    return found


def is_cone(library, name, output, value):
    """Tell whether a value, which may be any value, is a list as cone returns it."""
    befores = _graph_with(library, name, output)
    if not isinstance(value, list) or not all([isinstance(pair, tuple) and len(pair) == 2 for pair in value]):
        return False
    ports = [port for port, _ in value]
    if not _are_ports_once(ports, befores) or not all([is_integer(feeds) for _, feeds in value]):
        return False
    if value[:1] != [(((), output), -1)]:
        return False
    listed = {port: True for port in ports}
    for index, (port, feeds) in enumerate(value):
        if index > 0 and not (0 <= feeds < index and port in befores[ports[feeds]]):
            return False
        if not all([before in listed for before in befores[port]]):
            return False
    return True


def _graph_with(library, name, output):
    """Return the graph of a diagram, or raise UnknownPort if the diagram has no such output."""
    befores = port_graph(library, name)
    if output not in library.diagram(name).outputs:
        raise UnknownPort(output)
    return befores
