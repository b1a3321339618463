"""Lines of nets, and parts that are moved ahead of delays (points 25 to 27)."""

from stepblocks.blocks import Primitive
from stepblocks.circuits import order_parts
from stepblocks.errors import BadMoves, UnknownPort
from stepblocks.heads import Lines
from stepblocks.nets import Net
from stepblocks.ports import is_port
from stepblocks.texts import LETTERS, is_integer

MOST_MOVES = 100


def line_of(net, target):
    """Return the head of the line of a target, which may be any value, and the list of the values of the line."""
    if not is_port(target) or target not in _list_targets(net):
        raise UnknownPort(target)
    lines = Lines(net)
    return (lines.heads[target], lines.values_of(target))


def _list_targets(net):
    """Return a dict of True for the targets of all lines."""
    delays = {path: True for path, text in net.parts if Primitive.parse(text).name == "delay"}
    return {target: True for target, _ in net.wires if target[0] not in delays}


def are_good(net, value):
    """Tell whether a value, which may be any value, is good moves of a net."""
    return _fit(Lines(net), value)


def _fit(lines, value):
    """Tell whether a value, which may be any value, is good moves for the lines of a net."""
    if not isinstance(value, dict) or len(value) != len(lines.words):
        return False
    if not all([path in value and _is_number_of_moves(value[path]) for path in lines.words]):
        return False
    return all([_width_after(lines, value, target) >= 0 for target in lines.counted])


def _is_number_of_moves(value):
    return is_integer(value) and 0 <= value <= MOST_MOVES


def _width_after(lines, moves, target):
    """Return the number of the delays that a line has when the parts are moved, or less than 0."""
    # Consts, and inputs and outputs of the net, are not moved.
    moved = moves.get(lines.heads[target][0], 0) - moves.get(target[0], 0)
    return lines.widths[target] + moved


def moved_net(net, moves):
    """Return the net moved by good moves."""
    lines = Lines(net)
    if not _fit(lines, moves):
        raise BadMoves()
    parts = [(path, text) for path, text in net.parts if Primitive.parse(text).name != "delay"]
    rows = _move_lines(net, lines, moves)
    paths = _fresh_paths(sum([len(rows[target]) for target in rows]), {path: True for path, _ in parts})
    wires, delays, feeds = {}, [], []
    for target in rows:
        before = target
        for value in rows[target]:
            path = paths[len(delays)]
            delays.append((path, f"delay {value}"))
            wires[before] = (path, "out")
            before = (path, "in")
            feeds.append(before)
        wires[before] = lines.heads[target]
    ordered = [target for target in rows if target[0]] + feeds + [target for target in rows if not target[0]]
    listed = tuple([(target, wires[target]) for target in ordered])
    return Net.wide(net.inputs, net.outputs, tuple(parts + delays), listed)


def _move_lines(net, lines, moves):
    """Return a dict from the targets of all lines to the values of these lines when the parts are moved."""
    first = FirstInstants(net, lines, moves)
    rows = {}
    for target in lines.heads:
        start = moves.get(target[0], 0)
        # Less than no delays are left only where the line begins at a const: then it has none.
        many = max(0, _width_after(lines, moves, target))
        rows[target] = [first.value_at(target, start + k) for k in range(many)]
    return rows


class FirstInstants:
    """The values of a net in those first instants that parts are moved ahead; no history changes them."""

    def __init__(self, net, lines, moves):
        self._lines = lines
        self._values = {target: lines.values_of(target) for target in lines.heads}
        self._answers = {}
        blocks = {path: Primitive.parse(text) for path, text in net.parts}
        order = [path for path in order_parts(blocks, net.wires) if path in lines.words]
        for instant in range(max(moves.values(), default=0)):
            for path in order:
                if instant < moves[path]:
                    self._compute(path, blocks[path], instant)

    def _compute(self, path, block, instant):
        """Compute the outputs of a part in an instant; those before, and those it needs of this one, are known."""
        values = block.compute(tuple([self.value_at((path, name), instant) for name in block.inputs]))
        for name, value in zip(block.outputs, values):
            self._answers.setdefault((path, name), []).append(value)

    def value_at(self, target, instant):
        """Return the value of a target in an instant in which no history changes it."""
        values = self._values[target]
        if instant < len(values):
            return values[instant]
        constant = self._lines.constant_at(target)
        if constant is not None:
            return constant
        return self._answers[self._lines.heads[target]][instant - len(values)]


def _fresh_paths(many, taken):
    """Return a list of so many different paths, none of which is taken."""
    found = []
    number = 0
    while len(found) < many:
        # No name that begins with this letter is a reserved word.
        path = ("d" + "".join([LETTERS[int(digit)] for digit in str(number)]),)
        if path not in taken:
            found.append(path)
        number += 1
    return found
