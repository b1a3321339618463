"""The delay count of a net, and the moves that make it least (point 31)."""

from stepblocks.flows import Flow
from stepblocks.heads import Lines
from stepblocks.limits import least_numbers
from stepblocks.routes import Routes, judge_route
from stepblocks.texts import is_integer


def count_delays(net):
    """Return the number of the delays of all lines whose heads are not outputs of consts, line by line."""
    return _count_within(Lines(net))


def _count_within(lines):
    return sum([lines.widths[target] for target in lines.counted])


def _list_rises(lines):
    """Return a dict from the parts to how much the delay count rises when they alone are moved once."""
    rises = {path: 0 for path in lines.words}
    for target in lines.counted:
        # Inputs and outputs of the net have the path ().
        for path, step in ((lines.heads[target][0], 1), (target[0], -1)):
            if path:
                rises[path] += step
    return rises


def fewest_delays(net, *, costs, bound):
    """Return the least of those good moves for a bound that lead to the least delay count, or None."""
    thrift = Thrift(Lines(net), costs, bound)
    return thrift.find_moves() if thrift.is_possible else None


def shares_for(net, *, costs, bound):
    """Return shares that show the least delay count for a bound of the period, or None."""
    thrift = Thrift(Lines(net), costs, bound)
    return thrift.list_shares() if thrift.is_possible else None


class Thrift:
    """Finds the least delay count for a bound of the period; is_possible tells whether there are good moves for it."""

    def __init__(self, lines, costs, bound):
        self._routes = Routes(lines, costs)
        self._limits = self._routes.limits_for(bound)
        found, _ = least_numbers(self._routes.ground, self._limits)
        self.is_possible = found is not None
        self._prices = self._list_prices()
        self._amounts = {}
        if self.is_possible:
            rises = list(_list_rises(lines).values())
            flow = Flow(self._prices, found, rises + [-sum(rises)])
            flow.send_all()
            self._amounts = {pair: flow.amounts[pair] for pair in flow.amounts if flow.amounts[pair] > 0}

    def _list_prices(self):
        prices = [{} for _ in range(self._routes.ground + 1)]
        for start, end, limit in self._limits:
            if start != end:
                prices[start][end] = limit
        for node in range(self._routes.ground):
            # No part is moved less than 0 times: what it has too much may be left with it.
            prices[node][self._routes.ground] = min(0, prices[node].get(self._routes.ground, 0))
        return prices

    def find_moves(self):
        """Return the least moves that lead to the least delay count."""
        # These are just the moves that come up to each limit over which something is sent.
        tight = [(end, start, -self._prices[start][end]) for start, end in self._amounts]
        found, _ = least_numbers(self._routes.ground, self._limits + tight)
        return self._routes.moves_of(found)

    def list_shares(self):
        """Return shares that show the least delay count."""
        shares = []
        for start, end in self._amounts:
            # What is left with a part takes no route.
            if end != self._routes.ground or self._prices[start][end] < 0:
                shares.append((self._amounts[(start, end)], self._routes.route_between(start, end)))
        return shares


def shown_by(net, value, *, costs, bound):
    """Return the delay count that shares show for a bound; None if a value, which may be any value, is no shares."""
    lines = Lines(net)
    if not isinstance(value, list) or not all([_is_pair(share) for share in value]):
        return None
    judged = [judge_route(lines, route, costs, bound) for _, route in value]
    if not all([told is not None for told in judged]):
        return None
    left = _list_rises(lines)
    shown = _count_within(lines)
    for (amount, _), (start, end, limit) in zip(value, judged):
        shown -= amount * limit
        if start:
            left[start] -= amount
        if end:
            left[end] += amount
    return shown if all([left[path] >= 0 for path in left]) else None


def _is_pair(value):
    """Tell whether a value, which may be any value, is a pair of an amount and something."""
    return isinstance(value, tuple) and len(value) == 2 and is_integer(value[0]) and value[0] >= 1
