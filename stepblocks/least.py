"""Alike parts, needed parts and least nets (point 24)."""

from stepblocks.nets import Net
from stepblocks.origins import list_origins
from stepblocks.partitions import coarsest_classes


def part_classes(net):
    """Return the list of the classes of all parts, each a list of paths, ordered by their first parts."""
    classes = Likeness(net).class_of
    groups = {}
    for path, _ in net.parts:
        groups.setdefault(classes[path], []).append(path)
    return list(groups.values())


def needed_parts(net):
    """Return the list of the paths of the needed parts, in the order of the parts."""
    return _list_needed(net, Likeness(net))


def least_net(net):
    """Return a net with as few parts as possible that answers each history as a net does, for each reading."""
    likeness = Likeness(net)
    firsts = {}
    for path in _list_needed(net, likeness):
        firsts.setdefault(likeness.class_of[path], path)
    kept = {path: True for path in firsts.values()}
    parts = [(path, likeness.least_text(path, text)) for path, text in net.parts if path in kept]
    wires = []
    for target, (path, name) in net.wires:
        # A steady part that is kept becomes a const, which has no inputs.
        if not target[0] or target[0] in kept and not likeness.is_steady(target[0]):
            # The path () is that of the inputs of the net.
            stands_for = firsts[likeness.class_of[path]] if path else path
            wires.append((target, (stands_for, name)))
    return Net.wide(net.inputs, net.outputs, tuple(parts), tuple(wires))


class Likeness:
    """Tells which parts of a net are alike: class_of has the numbers of their classes. Tells which are steady, too."""

    def __init__(self, net):
        origins = list_origins(net)
        self._firsts = {}
        for path, name in origins:
            if path:
                self._firsts.setdefault(path, origins[(path, name)])
        # For each value of a const or a delay there is one more node, to which all steady parts are alike.
        held = {origins[source].constant: True for source in origins if _has_value(origins[source])}
        nodes = list(origins) + list(held)
        places = {node: place for place, node in enumerate(nodes)}
        labels = [_label_of(origins[source]) for source in origins] + [("value", value) for value in held]
        follows = [_followers(origins[source], source) for source in origins] + [[value] for value in held]
        numbers = coarsest_classes(labels, [[places[node] for node in given] for given in follows])
        # Two parts are alike as soon as their first outputs are: they have the same word and alike inputs.
        self.class_of = {path: numbers[places[(path, self._firsts[path].name)]] for path in self._firsts}
        self._steady = {numbers[places[value]]: True for value in held}

    def is_steady(self, path):
        """Tell whether a part is steady."""
        return self.class_of[path] in self._steady

    def least_text(self, path, text):
        """Return the text that a part has in a least net."""
        return f"const {self._firsts[path].constant}" if self.is_steady(path) else text

    def feeds_of(self, path):
        """Return the list of the sources to which the inputs of a part are wired."""
        return list(self._firsts[path].feeds.values())


def _has_value(origin):
    return origin.word in ("const", "delay")


def _label_of(origin):
    """Return what tells two sources apart as far as it does not come from their inputs."""
    if _has_value(origin):
        return ("value", origin.constant)
    return (origin.word, origin.name)


def _followers(origin, source):
    """Return the sources from which a source has its values."""
    # A const has the values of a delay that is wired to itself.
    if origin.word == "const":
        return [source]
    return list(origin.feeds.values())


def _list_needed(net, likeness):
    """Return the list of the paths of the needed parts, in the order of the parts."""
    needed = {}
    left = [source for target, source in net.wires if not target[0]]
    while left:
        path, _ = left.pop()
        if path and path not in needed:
            needed[path] = True
            if not likeness.is_steady(path):
                left.extend(likeness.feeds_of(path))
    return [path for path, _ in net.parts if path in needed]
