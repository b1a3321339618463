"""Amounts that are sent between nodes, as cheaply as possible (point 31)."""


class Flow:
    """Sends amounts from the nodes that have too much to those that have too little, as cheaply as possible.

    prices is a list of dicts: prices[start][end] is what it costs to send one from a node to another one. levels is a
    list of numbers of the nodes, so that each price is at least the number of the end less that of the start. spares
    is the list of what the nodes have too much, together 0. amounts is a dict from pairs (start, end) to what is sent.
    """

    def __init__(self, prices, levels, spares):
        self.amounts = {}
        self._prices = prices
        self._levels = list(levels)
        self._spares = list(spares)

    def send_all(self):
        """Send all that the nodes have too much, where there is a way for it."""
        for node in range(len(self._prices)):
            while self._spares[node] > 0:
                self._send_from(node)

    def _send_from(self, start):
        """Send something along the cheapest way from a node to one that has too little."""
        settled, befores = self._find_way(start)
        last = list(settled)[-1]
        # As the levels follow the distances, no price falls below their differences.
        for node in settled:
            self._levels[node] += settled[node] - settled[last]
        steps = []
        node = last
        while node != start:
            steps.append((befores[node], node))
            node = befores[node]
        rooms = [self.amounts[(end, begin)] for begin, end in steps if self._is_sent(end, begin)]
        amount = min([self._spares[start], -self._spares[last]] + rooms)
        for begin, end in steps:
            self._send(begin, end, amount)
        self._spares[start] -= amount
        self._spares[last] += amount

    def _is_sent(self, start, end):
        return self.amounts.get((start, end), 0) > 0

    def _send(self, start, end, amount):
        """Send an amount over one step: it is taken back there if something is sent the other way."""
        if self._is_sent(end, start):
            self.amounts[(end, start)] -= amount
        else:
            self.amounts[(start, end)] = self.amounts.get((start, end), 0) + amount

    def _price(self, start, end):
        """Return what it costs to send one more from start to end, or None if this cannot be."""
        # Taking back costs no more than sending both ways would.
        if self._is_sent(end, start):
            return -self._prices[end][start]
        return self._prices[start].get(end)

    def _find_way(self, start):
        """Return the distances of the nodes that are settled, the last of which has too little, and ways to them.

        The ways are a dict from each node but the start to the node before it.
        """
        distances, befores, settled = {start: 0}, {}, {}
        while True:
            node = min([(distances[other], other) for other in distances if other not in settled])[1]
            settled[node] = distances[node]
            if self._spares[node] < 0:
                return settled, befores
            for end in range(len(self._prices)):
                price = None if end in settled else self._price(node, end)
                if price is not None:
                    distance = settled[node] + price + self._levels[node] - self._levels[end]
                    if distance < distances.get(end, distance + 1):
                        distances[end] = distance
                        befores[end] = node
