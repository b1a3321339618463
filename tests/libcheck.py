"""Points 12 and 13 once more, by plain search: what an edit of a library must do."""

import oracle
from stepblocks.blocks import Primitive
from stepblocks.texts import is_primitive


def inner_blocks(diagram):
    return [block for _, block in diagram.parts if not is_primitive(block)]


def first_missing(diagrams):
    """Return the block that UnknownBlock tells, or None."""
    for name in sorted(diagrams):
        for block in inner_blocks(diagrams[name]):
            if block not in diagrams:
                return block
    return None


def is_chain(diagrams, value):
    """Tell whether a value is a chain as Recursion has it."""
    if type(value) is not list or not value:
        return False
    return all(after in inner_blocks(diagrams[name]) for name, after in zip(value, value[1:] + value[:1]))


def is_recursive(diagrams):
    follows = {name: inner_blocks(diagrams[name]) for name in diagrams}
    return any(name in oracle.reached_from(follows, name) for name in diagrams)


def ports_of(block, diagrams):
    known = Primitive.parse(block) if is_primitive(block) else diagrams[block]
    return known.inputs, known.outputs


def bad_ports(diagrams, name):
    """Return the reason of BadDiagram and the ports that it may name, or None."""
    diagram = diagrams[name]
    targets, sources = {("", port) for port in diagram.outputs}, {("", port) for port in diagram.inputs}
    for part, block in diagram.parts:
        inputs, outputs = ports_of(block, diagrams)
        targets |= {(part, port) for port in inputs}
        sources |= {(part, port) for port in outputs}
    unknown = [target for target, _ in diagram.wires if target not in targets]
    unknown += [source for _, source in diagram.wires if source not in sources]
    if unknown:
        return "unknown port", unknown
    lacking = targets - {target for target, _ in diagram.wires}
    return ("no source", lacking) if lacking else None


def first_bad(diagrams):
    for name in sorted(diagrams):
        found = bad_ports(diagrams, name)
        if found:
            return name, *found
    return None


def build_order(diagrams):
    """Return the names in build order, word by word as the document has it."""
    order = []
    while len(order) < len(diagrams):
        able = [name for name in diagrams if name not in order
                and all(block in order for block in inner_blocks(diagrams[name]))]
        order.append(min(able))
    return order


def first_cyclic(diagrams):
    """Return the diagram of which Cycle tells, or None."""
    for name in build_order(diagrams):
        if oracle.port_profile(diagrams, name) is None:
            return name
    return None


def interface_of(diagrams, name):
    diagram = diagrams[name]
    return diagram.inputs, diagram.outputs, oracle.port_profile(diagrams, name)


def rebuilt_by(before, diagrams):
    """Return the names that an edit compiles, in build order."""
    names = []
    for name in build_order(diagrams):
        diagram = diagrams[name]
        if name not in before or str(before[name]) != str(diagram) or any(
                oracle.port_profile(before, block) != oracle.port_profile(diagrams, block)
                for block in inner_blocks(diagram)):
            names.append(name)
    return tuple(names)
