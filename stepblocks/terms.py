"""Values of the sources of nets, where primitives only tell what they are computed from (points 21 and 23)."""

from stepblocks.graphs import sort_nodes


class Terms:
    """Numbers of values: two values have the same number if and only if they are equal for each reading."""

    def __init__(self):
        self._numbers = {}

    def number_of(self, shape):
        """Return the number of the value that is made so: a tuple of strings, integers and numbers of values."""
        return self._numbers.setdefault(shape, len(self._numbers))


class Unfolding:
    """The numbers of the values that the sources of a net have, in the instants so far; origins are its Origins."""

    def __init__(self, origins, terms):
        self.origins = origins
        self._terms = terms
        self._rows = []
        # Delays need no value of the same instant.
        waiting = [source for source in origins if origins[source].word != "delay"]
        befores = {source: [] for source in origins}
        befores.update({source: list(origins[source].feeds.values()) for source in waiting})
        self._order = sort_nodes(befores)

    def go_on(self):
        """Number the values of one more instant."""
        row = {}
        for source in self._order:
            row[source] = self._number(self.origins[source], row)
        self._rows.append(row)

    def _number(self, origin, row):
        """Return the number of a value of the next instant, whose row has the values from which it is computed."""
        instant = len(self._rows)
        if origin.word == "input":
            return self._terms.number_of(("input", origin.name, instant))
        if origin.word == "delay" and instant > 0:
            return self._rows[instant - 1][origin.feeds["in"]]
        if not origin.is_rule:
            return self._terms.number_of(("value", origin.constant))
        given = [row[origin.feeds[name]] for name in origin.feeds]
        return self._terms.number_of((origin.word, origin.name, *given))

    def number_at(self, source, instant):
        """Return the number of the value of a source in one of the instants so far."""
        return self._rows[instant][source]
