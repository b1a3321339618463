"""All that nets do with rows from small ranges (points 34 and 35)."""

from stepblocks.circuits import Circuit
from stepblocks.errors import BadRanges, OtherPorts, TooManyStates, UnknownPort
from stepblocks.partitions import coarsest_classes
from stepblocks.texts import is_value

MOST_VALUES = 4
MOST_ROWS = 16
MOST_STATES = 300


def rows_of(net, ranges):
    """Return the list of the rows of ranges, which may be any value, ordered by the first input, then by the next."""
    if not isinstance(ranges, dict) or len(ranges) != len(net.inputs):
        raise BadRanges()
    rows = [()]
    for name in net.inputs:
        if name not in ranges or not _is_choice(ranges[name]):
            raise BadRanges()
        rows = [row + (value,) for row in rows for value in ranges[name]]
        if len(rows) > MOST_ROWS:
            raise BadRanges()
    return rows


def _is_choice(value):
    """Tell whether a value, which may be any value, is a list of one to four different values."""
    if not isinstance(value, list) or not 1 <= len(value) <= MOST_VALUES:
        return False
    return all([is_value(item) for item in value]) and len(set(value)) == len(value)


class Walks:
    """Where histories of rows lead some nets together, each history all of them.

    The nodes 0, 1 and so on are the states that can be reached, the nearest first. states has for each node the tuple
    of the states of the nets; answers and onward have for each node, row by row, the tuple of the rows of outputs, and
    the next node. Raises TooManyStates.
    """

    def __init__(self, nets, rows):
        self._circuits = [Circuit(net.inputs, net.outputs, net.parts, net.wires) for net in nets]
        self._rows = rows
        self._nodes = {}
        self._befores = []
        self.states = []
        self.answers = []
        self.onward = []
        self._find([circuit.first_values for circuit in self._circuits], None)
        while len(self.answers) < len(self.states):
            self._go_on(len(self.answers))

    def _find(self, states, before):
        """Return the node of some states; if it is new, a step (node, row) leads to it."""
        key = tuple([tuple(held.values()) for held in states])
        if key not in self._nodes:
            if len(self.states) >= MOST_STATES:
                raise TooManyStates()
            self._nodes[key] = len(self.states)
            self.states.append(tuple(states))
            self._befores.append(before)
        return self._nodes[key]

    def _go_on(self, node):
        """Answer all rows in a state."""
        answers, onward = [], []
        for row in self._rows:
            told = [circuit.answer(held, row) for circuit, held in zip(self._circuits, self.states[node])]
            answers.append(tuple([outputs for outputs, _ in told]))
            onward.append(self._find([held for _, held in told], (node, row)))
        self.answers.append(answers)
        self.onward.append(onward)

    def _go_back(self, node, row):
        """Return a shortest history that leads to a node and ends there with a row."""
        found = [row]
        step = self._befores[node]
        while step is not None:
            found.append(step[1])
            step = self._befores[step[0]]
        return list(reversed(found))

    def find_history(self, is_wanted):
        """Return a shortest history by whose last rows of outputs a test is met, or None."""
        for node, answers in enumerate(self.answers):
            for row, told in zip(self._rows, answers):
                if is_wanted(told):
                    return self._go_back(node, row)
        return None


def reached_states(net, ranges):
    """Return the list of the states that can be reached."""
    walks = Walks([net], rows_of(net, ranges))
    return [{path: states[0][path] for path in states[0]} for states in walks.states]


def history_to(net, ranges, output, values):
    """Return a shortest history by which an output has one of some values in the last instant, or None."""
    rows = rows_of(net, ranges)
    if not isinstance(output, str) or output not in net.outputs:
        raise UnknownPort(output)
    place = net.outputs.index(output)
    return Walks([net], rows).find_history(lambda told: told[0][place] in values)


def history_apart(net, other, ranges):
    """Return a shortest history for which the last rows of outputs of two nets are different, or None."""
    if net.inputs != other.inputs or net.outputs != other.outputs:
        raise OtherPorts()
    rows = rows_of(net, ranges)
    return Walks([net, other], rows).find_history(lambda told: told[0] != told[1])


def least_machine(net, ranges):
    """Return the least machine that answers as a net does: classes, each a list of one pair for each row."""
    walks = Walks([net], rows_of(net, ranges))
    labels = [tuple([told[0] for told in answers]) for answers in walks.answers]
    classes = coarsest_classes(labels, walks.onward)
    # The class of the first state comes first, then each one when a row of one before leads to it.
    order = [0]
    numbers = {classes[0]: 0}
    machine = []
    while len(machine) < len(order):
        node = order[len(machine)]
        for onward in walks.onward[node]:
            if classes[onward] not in numbers:
                numbers[classes[onward]] = len(order)
                order.append(onward)
        nexts = [numbers[classes[onward]] for onward in walks.onward[node]]
        machine.append([(outputs, number) for outputs, number in zip(labels[node], nexts)])
    return machine
