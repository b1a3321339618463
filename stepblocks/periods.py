"""The period of a net, and the least moves for a bound of it (points 28 to 30)."""

from stepblocks.blocks import Primitive
from stepblocks.circuits import order_parts
from stepblocks.heads import Lines
from stepblocks.limits import least_numbers
from stepblocks.routes import Routes, cost_of, judge_route


def period(net, *, costs):
    """Return the greatest cost of a chain, 0 if there is none."""
    lines = Lines(net)
    return sum([cost_of(lines, path, costs) for path in _find_slowest(net, lines, costs)])


def slowest(net, *, costs):
    """Return a chain whose cost is the period, or [] if there is no chain."""
    return _find_slowest(net, Lines(net), costs)


def _find_slowest(net, lines, costs):
    """Return a chain of the greatest cost, or []."""
    blocks = {path: Primitive.parse(text) for path, text in net.parts}
    wired = {path: [] for path in lines.words}
    for (path, _), (origin, _) in net.wires:
        if path in wired and origin in wired:
            wired[path].append(origin)
    chains = {}
    best = None
    for path in order_parts(blocks, net.wires):
        if path in wired:
            before = _costliest(wired[path], chains)
            cost = chains[before][0] if before else 0
            chains[path] = (cost + cost_of(lines, path, costs), before)
            best = _costliest([path, best] if best else [path], chains)
    found = []
    while best:
        found.append(best)
        best = chains[best][1]
    return list(reversed(found))


def _costliest(paths, chains):
    """Return that of some paths at which the chain of the greatest cost ends, or None if there are none."""
    best = None
    for path in paths:
        if best is None or chains[path][0] > chains[best][0]:
            best = path
    return best


def least_moves(net, *, costs, bound):
    """Return the least good moves by which the period is at most a bound, or None if there are none."""
    routes = Routes(Lines(net), costs)
    found, _ = least_numbers(routes.ground, routes.limits_for(bound))
    return None if found is None else routes.moves_of(found)


def bar_for(net, *, costs, bound):
    """Return None if there are good moves by which the period is at most a bound, otherwise a bar."""
    routes = Routes(Lines(net), costs)
    _, pairs = least_numbers(routes.ground, routes.limits_for(bound))
    return None if pairs is None else [routes.route_between(start, end) for start, end in pairs]


def is_bar(net, value, *, costs, bound):
    """Tell whether a value, which may be any value, is a bar for a bound of the period."""
    lines = Lines(net)
    if not isinstance(value, list) or not value:
        return False
    judged = [judge_route(lines, route, costs, bound) for route in value]
    if not all([told is not None for told in judged]) or sum([told[2] for told in judged]) >= 0:
        return False
    for (start, _, _), (_, end, _) in zip(judged[:-1], judged[1:]):
        # Inputs and outputs of the net are no parts.
        if start == () or start != end:
            return False
    last_start, first_end = judged[-1][0], judged[0][1]
    return last_start in ((), first_end)


def least_period(net, *, costs):
    """Return the least bound for which there are good moves by which the period is at most this bound."""
    routes = Routes(Lines(net), costs)
    # Which moves are good for a bound changes only where a route becomes costlier than the bound.
    bounds = sorted(set([0] + [cost for _, _, _, cost in routes.pairs]))
    low, high = 0, len(bounds) - 1
    while low < high:
        middle = (low + high) // 2
        found, _ = least_numbers(routes.ground, routes.limits_for(bounds[middle]))
        if found is None:
            low = middle + 1
        else:
            high = middle
    return bounds[low]
