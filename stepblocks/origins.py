"""What gives the sources of a net their values."""

from stepblocks.blocks import Primitive


class Origin:
    """What stands at a source: an input of the net (with the word "input"), or an output of a part.

    feeds is a dict from the inputs of the part to their sources, in the order of the document.
    """

    def __init__(self, word, constant, name, feeds):
        self.word = word
        self.constant = constant
        self.name = name
        self.feeds = feeds
        self.is_rule = word not in ("input", "const", "delay")


def list_origins(net):
    """Return a dict from all sources of a net to their Origins."""
    sources = {target: source for target, source in net.wires}
    origins = {((), name): Origin("input", None, name, {}) for name in net.inputs}
    for path, text in net.parts:
        block = Primitive.parse(text)
        feeds = {name: sources[(path, name)] for name in block.inputs}
        for name in block.outputs:
            origins[(path, name)] = Origin(block.name, block.constant, name, feeds)
    return origins


def pass_delays(origins, source, instant):
    """Return the source and the instant to which a walk comes by delays alone."""
    while origins[source].word == "delay" and instant > 0:
        source = origins[source].feeds["in"]
        instant -= 1
    return source, instant
