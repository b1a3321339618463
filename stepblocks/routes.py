"""Routes through the lines of a net, and the moves that their bounds ask for (points 28 to 30)."""

from stepblocks.ports import is_port


def cost_of(lines, path, costs):
    """Return the cost of a part other than const and delay; inputs and outputs of the net cost nothing."""
    return costs[lines.words[path]] if path else 0


def judge_route(lines, value, costs, bound):
    """Return where a route starts, where it ends, and its bound; None if a value, which may be any value, is none.

    The ends are told by the path of a part, or by () for an input or output of the net.
    """
    if not isinstance(value, tuple) or len(value) != 2:
        return None
    start, targets = value
    if not is_port(start) or not lines.is_start(start) or not isinstance(targets, tuple):
        return None
    if not _are_joined(lines, start, targets):
        return None
    passed = [start[0]] + [target[0] for target in targets]
    delays = sum([lines.widths[target] for target in targets])
    cost = sum([cost_of(lines, path, costs) for path in passed])
    return (passed[0], passed[-1], delays - 1 if cost > bound else delays)


def _are_joined(lines, start, targets):
    """Tell whether the lines of some targets, which may be any values, lead on from a start, one behind the other."""
    if not targets:
        return start[0] != ()
    if not all([is_port(target) and target in lines.heads for target in targets]):
        return False
    if lines.heads[targets[0]] != start:
        return False
    # Nothing comes behind an output of the net, which has the path of the inputs.
    return all([before[0] != () and lines.heads[target][0] == before[0]
                for before, target in zip(targets[:-1], targets[1:])])


class Routes:
    """The routes of a net with the least bounds, for costs.

    The parts other than consts and delays are the nodes 0, 1 and so on; paths is the list of their paths. The node
    ground, behind them, is all inputs of the net, where a route starts, and all outputs, where it ends. pairs is a list
    of tuples (start, end, delays, cost): whatever P is, no route from start to end has a lower bound than one with so
    many delays and this cost, which is the cost of its parts together.
    """

    def __init__(self, lines, costs):
        self._lines = lines
        self.paths = list(lines.words)
        self.ground = len(self.paths)
        self._nodes = {path: node for node, path in enumerate(self.paths)}
        self._nodes[()] = self.ground
        self._costs = [costs[lines.words[path]] for path in self.paths] + [0]
        # A delay counts for more than all costs of a route that passes no part twice.
        self._weight = sum(self._costs) + 1
        self._ways = [{} for _ in self._costs]
        self._steps = [{} for _ in self._costs]
        self._take_lines()
        for middle in range(self.ground):
            for start in range(self.ground + 1):
                if start != middle and middle in self._ways[start]:
                    self._lengthen(start, middle)
        self.pairs = self._list_pairs()

    def _take_lines(self):
        """Find the best routes of one line each: their delays times the weight, less the costs behind the start."""
        for target in self._lines.counted:
            start, end = self._nodes[self._lines.heads[target][0]], self._nodes[target[0]]
            way = self._lines.widths[target] * self._weight - self._costs[end]
            if start != end and way < self._ways[start].get(end, way + 1):
                self._ways[start][end] = way
                self._steps[start][end] = target

    def _lengthen(self, start, middle):
        """Find the routes from a start that are better as they go on from a part."""
        ways, onward = self._ways[start], self._ways[middle]
        first, step = ways[middle], self._steps[start][middle]
        found = {end: first + onward[end] for end in onward}
        # A route that comes back to its start has more delays than the one without targets.
        better = {end: found[end] for end in found if end != start and found[end] < ways.get(end, found[end] + 1)}
        ways.update(better)
        self._steps[start].update({end: step for end in better})

    def _list_pairs(self):
        pairs = [(node, node, 0, self._costs[node]) for node in range(self.ground)]
        for start, ways in enumerate(self._ways):
            for end in ways:
                whole = ways[end] - self._costs[start]
                delays = (whole + self._weight - 1) // self._weight
                pairs.append((start, end, delays, delays * self._weight - whole))
        return pairs

    def limits_for(self, bound):
        """Return the list of tuples (start, end, limit): by so much more than the start the end is moved at most."""
        return [(start, end, delays - 1 if cost > bound else delays) for start, end, delays, cost in self.pairs]

    def route_between(self, start, end):
        """Return the best route from a node to another one, or that without targets from a part to itself."""
        targets = []
        node = start
        while node != end:
            targets.append(self._steps[node][end])
            node = self._nodes[targets[-1][0]]
        if targets:
            return (self._lines.heads[targets[0]], tuple(targets))
        return (self._lines.starts[self.paths[start]], ())

    def moves_of(self, numbers):
        """Return the dict of the moves of the parts, for a list of the numbers of the nodes."""
        return {path: numbers[node] for node, path in enumerate(self.paths)}
