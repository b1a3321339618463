"""Point 8 and stages 4 and 5 once more: judges of values, and wires followed by hand."""

import oracle
from stepblocks.blocks import Primitive
from stepblocks.texts import is_primitive


def diagrams_in(library):
    return {name: library.diagram(name) for name in library.names}


def list_primitives(diagrams, name, path=()):
    """Return the pairs (path, text) of all primitives, depth first."""
    found = []
    for part, block in diagrams[name].parts:
        if is_primitive(block):
            found.append((path + (part,), block))
        else:
            found += list_primitives(diagrams, block, path + (part,))
    return found


def count_parts(diagrams, name):
    return sum(1 if is_primitive(block) else 1 + count_parts(diagrams, block) for _, block in diagrams[name].parts)


def list_ports(diagrams, name, path=()):
    """Return all ports of a diagram and of its parts."""
    diagram = diagrams[name]
    ports = [(path, port) for port in diagram.inputs + diagram.outputs]
    for part, block in diagram.parts:
        below = path + (part,)
        if is_primitive(block):
            known = Primitive.parse(block)
            ports += [(below, port) for port in known.inputs + known.outputs]
        else:
            ports += list_ports(diagrams, block, below)
    return ports


def is_strict_port(value):
    if type(value) is not tuple or len(value) != 2 or type(value[0]) is not tuple or type(value[1]) is not str:
        return False
    return all(type(name) is str for name in value[0])


def judge_order(diagrams, name, value):
    """Tell whether a value is a list as port_order returns it."""
    if type(value) is not list or not all(is_strict_port(port) for port in value):
        return False
    if sorted(value) != sorted(list_ports(diagrams, name)):
        return False
    return all(value.index(one) < value.index(other) for one, other in oracle.port_edges(diagrams, name))


def judge_cone(diagrams, name, output, value):
    """Tell whether a value is a list as cone returns it."""
    if type(value) is not list or not value:
        return False
    for pair in value:
        if type(pair) is not tuple or len(pair) != 2 or not is_strict_port(pair[0]) or type(pair[1]) is not int:
            return False
    if value[0] != (((), output), -1):
        return False
    edges = oracle.port_edges(diagrams, name)
    ports = [port for port, _ in value]
    if len(set(ports)) != len(ports):
        return False
    for index, (port, feeds) in enumerate(value[1:], 1):
        if not 0 <= feeds < index or (port, ports[feeds]) not in edges:
            return False
    return all(one in ports for one, other in edges if other in ports)


def flat_wires(diagrams, name):
    """Return the wires that flatten must give, each source found by following edges one by one."""
    parts = list_primitives(diagrams, name)
    before = {other: one for one, other in oracle.port_edges(diagrams, name)}
    ends = {(path, port) for path, text in parts for port in Primitive.parse(text).outputs}
    ends |= {((), port) for port in diagrams[name].inputs}
    wires = []
    targets = [(path, port) for path, text in parts for port in Primitive.parse(text).inputs]
    for target in targets + [((), port) for port in diagrams[name].outputs]:
        source = before[target]
        while source not in ends:
            source = before[source]
        wires.append((target, source))
    return tuple(wires)


def random_library(chance, many, most_parts, blocks):
    """Return a library of accepted diagrams, put in one by one, and the name of the last one."""
    from stepblocks.errors import Cycle
    from stepblocks.library import Library
    library, names = Library(), ["one", "two", "three", "four", "five"][:many]
    known = {text: Primitive.parse(text).interface for text in blocks}
    while names:
        inner = {name: library.compiled(name).interface for name in library.names}
        some = {**inner, **dict(chance.sample(list(known.items()), min(len(known), 4)))}
        diagram = oracle.random_diagram(chance, names[0], some, most_parts)
        if diagram is None:
            continue
        try:
            library.change([diagram], [])
        except Cycle:
            continue
        names.pop(0)
    return library, library.rebuilt[0]
