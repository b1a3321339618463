"""Runners, which run a diagram instant by instant (points 14 to 16)."""

from stepblocks.circuits import Circuit, check_row, check_state
from stepblocks.compiling import needs_by_output
from stepblocks.errors import BadValue, Given, InstantClosed, InstantOpen, NotGiven, UnknownPort
from stepblocks.flat import flatten
from stepblocks.graphs import sort_nodes
from stepblocks.ports import port_graph
from stepblocks.texts import is_value


class Plan:
    """All that running a diagram takes, of the library as it is when the plan is made. It never changes."""

    def __init__(self, library, name):
        diagram = library.diagram(name)
        parts, wires = flatten(library, name)
        self.inputs = diagram.inputs
        self.outputs = diagram.outputs
        self.needs = needs_by_output(library.compiled(name).profile)
        self.circuit = Circuit(diagram.inputs, diagram.outputs, parts, wires)
        self._befores = port_graph(library, name)

    def table_of(self, known):
        """Return a dict of the values of all ports, for those of inputs of the diagram and outputs of primitives."""
        found = {port: known[port] for port in known}
        for port in sort_nodes(self._befores):
            if port not in found:
                # All other ports are ends of wires: exactly one edge leads to each of them.
                found[port] = found[self._befores[port][0]]
        return found


class Runner:
    """Runs a diagram of a library; name is that of the diagram."""

    def __init__(self, library, name):
        self.name = name
        self._library = library
        self._plan = Plan(library, name)
        self._held = self._first_values()
        self._last = None

    def _first_values(self):
        first = self._plan.circuit.first_values
        return {path: first[path] for path in first}

    @property
    def state(self):
        """A dict from the path of each delay to its value."""
        return {path: self._held[path] for path in self._held}

    @property
    def instant(self):
        """The open instant, or None."""
        if self._last is None or not self._last.is_open:
            return None
        return self._last

    def _check_no_instant(self):
        if self.instant is not None:
            raise InstantOpen()

    def begin(self):
        """Open an instant and return it."""
        self._check_no_instant()
        self._last = Instant(self, self._plan, self._held)
        return self._last

    def step(self, *values):
        """Run one instant with a value for each input, and return the tuple of the outputs."""
        return self.step_row(values)

    def step_row(self, values):
        """Run one instant with a list or a tuple of values, and return the tuple of the outputs."""
        self._check_no_instant()
        check_row(self._plan.inputs, values)
        outputs, self._held = self._plan.circuit.answer(self._held, values)
        return outputs

    def trace(self, rows):
        """Run one instant for each row of a list, as it is asked for, and yield the outputs."""
        for row in rows:
            yield self.step_row(row)

    def restore(self, state):
        """Give all delays the values of a dict."""
        self._check_no_instant()
        check_state(self._held, state)
        # The order stays that of the delays, whatever that of the dict is.
        self._held = {path: state[path] for path in self._held}

    def move(self):
        """Go on with the current diagram of the same name; delays that it has, too, keep their values."""
        self._check_no_instant()
        self._plan = Plan(self._library, self.name)
        first = self._plan.circuit.first_values
        self._held = {path: self._held.get(path, first[path]) for path in first}

    def _end_instant(self, held):
        """Take the values that the delays hold behind an instant."""
        self._held = held


class Instant:
    """An instant of a runner, with the inputs and outputs of its diagram; is_open until it is finished or dropped."""

    def __init__(self, runner, plan, held):
        self.inputs = plan.inputs
        self.outputs = plan.outputs
        self.is_open = True
        self._runner = runner
        self._plan = plan
        self._known = plan.circuit.begin(held)
        self._jobs = plan.circuit.jobs

    @property
    def ready(self):
        """The tuple of the outputs that can be read."""
        if not self.is_open:
            return ()
        return tuple([output for output in self.outputs if not self._missing(self._plan.needs[output])])

    def _missing(self, names):
        """Return the tuple of those of some inputs that are not given."""
        return tuple([name for name in names if ((), name) not in self._known])

    def _check_open(self):
        if not self.is_open:
            raise InstantClosed()

    def _check_given(self, names):
        missing = self._missing(names)
        if missing:
            raise NotGiven(missing)

    def _check_input(self, name, value):
        """Raise an error if a value cannot be given to an input."""
        if name not in self.inputs:
            raise UnknownPort(name)
        if not is_value(value):
            raise BadValue(name)
        if ((), name) in self._known:
            raise Given(name)

    def give(self, name, value):
        """Give a value to an input."""
        self._check_open()
        self._check_input(name, value)
        self._known[((), name)] = value

    def give_all(self, **values):
        """Give values to several inputs, or to none of them if one of the values cannot be given."""
        self._check_open()
        for name in values:
            self._check_input(name, values[name])
        for name in values:
            self._known[((), name)] = values[name]

    def _compute(self):
        """Compute all that the given inputs allow."""
        self._known, self._jobs = self._plan.circuit.follow(self._known, self._jobs)

    def _compute_all(self):
        """Compute everything, or raise InstantClosed or NotGiven."""
        self._check_open()
        self._check_given(self.inputs)
        self._compute()

    def read(self, name):
        """Return the value of an output."""
        self._check_open()
        if name not in self.outputs:
            raise UnknownPort(name)
        self._check_given(self._plan.needs[name])
        self._compute()
        return self._known[self._plan.circuit.results[name]]

    def finish(self):
        """End the instant and return the tuple of all outputs."""
        self._compute_all()
        self.is_open = False
        self._runner._end_instant(self._plan.circuit.held_after(self._known))
        return self._plan.circuit.outputs_of(self._known)

    def drop(self):
        """Close the instant and leave the state as it was."""
        self.is_open = False

    def table(self):
        """Return a dict from all ports of the graph to their values."""
        self._compute_all()
        return self._plan.table_of(self._known)

    def __enter__(self):
        return self

    def __exit__(self, *told):
        self.is_open = False
