"""The lines of a net (point 25): where they begin, and the delays that they pass."""

from stepblocks.errors import DelayRing
from stepblocks.graphs import sort_nodes
from stepblocks.origins import list_origins


class Lines:
    """The lines of a net: heads and widths are dicts from their targets to their heads and numbers of delays.

    words and starts are dicts from the parts other than consts and delays to their words and first outputs; counted is
    the list of the targets of the lines whose heads are not outputs of consts. Raises DelayRing.
    """

    def __init__(self, net):
        self._origins = list_origins(net)
        ends = _pass_all_delays(self._origins)
        self.words, self.starts = {}, {}
        for path, name in self._origins:
            if self._origins[(path, name)].is_rule:
                self.words[path] = self._origins[(path, name)].word
                self.starts.setdefault(path, (path, name))
        self._sources = {target: source for target, source in net.wires if not target[0] or target[0] in self.words}
        self.heads = {target: ends[self._sources[target]][0] for target in self._sources}
        self.widths = {target: ends[self._sources[target]][1] for target in self._sources}
        self.counted = [target for target in self.heads if self._origins[self.heads[target]].word != "const"]

    def constant_at(self, target):
        """Return the value of the const at which the line of a target begins, or None if it begins elsewhere."""
        origin = self._origins[self.heads[target]]
        return origin.constant if origin.word == "const" else None

    def is_start(self, source):
        """Tell whether a source, which may be none, is an input, or an output of a part other than const and delay."""
        return source in self._origins and self._origins[source].word not in ("const", "delay")

    def values_of(self, target):
        """Return the list of the values of a line, the nearest to the target first."""
        values = []
        source = self._sources[target]
        while self._origins[source].word == "delay":
            values.append(self._origins[source].constant)
            source = self._origins[source].feeds["in"]
        return values


def _pass_all_delays(origins):
    """Return a dict from all sources to where a line comes from them, and over how many delays. Raises DelayRing."""
    befores = {source: [] for source in origins}
    befores.update({source: [origins[source].feeds["in"]] for source in origins if origins[source].word == "delay"})
    order = sort_nodes(befores)
    if len(order) < len(origins):
        raise DelayRing()
    ends = {}
    for source in order:
        if befores[source]:
            head, many = ends[befores[source][0]]
            ends[source] = (head, many + 1)
        else:
            ends[source] = (source, 0)
    return ends
