"""Points 34 and 35 once more: rows, states and shortest histories, by trying one history after the other."""

import itertools

import netcheck


def judge_ranges(net, value):
    if type(value) is not dict or set(value) != set(net.inputs):
        return False
    many = 1
    for items in value.values():
        if type(items) is not list or not 1 <= len(items) <= 4:
            return False
        if not all(type(item) is int and 0 <= item < 2 ** 32 for item in items) or len(set(items)) != len(items):
            return False
        many *= len(items)
    return many <= 16


def rows_of(net, ranges):
    return list(itertools.product(*[ranges[name] for name in net.inputs]))


def with_state(net, state):
    """Return a net whose delays begin with other values."""
    parts = tuple((path, f"delay {state[path]}" if path in state else text) for path, text in net.parts)
    return type(net).wide(net.inputs, net.outputs, parts, net.wires)


def first_state(net):
    return {path: int(text.split()[1]) for path, text in net.parts if text.startswith("delay")}


def answer(net, state, row):
    """Return the outputs for a row, and the state behind it, each value found backwards."""
    parts = tuple((path, f"delay {state[path]}" if path in state else text) for path, text in net.parts)
    names = [f"n{k}" for k in range(len(state))]
    inner = tuple(wire for wire in net.wires if wire[0][0])
    wired = dict(net.wires)
    wires = inner + tuple((((), name), wired[(path, "in")]) for name, path in zip(names, state))
    after = netcheck.answers_of(net.inputs, names, parts, wires, [row])[0]
    told = netcheck.answers_of(net.inputs, net.outputs, parts, net.wires, [row])[0]
    return told, dict(zip(state, after))


def explore(nets, rows):
    """Return a dict from the reached tuples of states to dicts from rows to pairs (answers, next states)."""
    def key_of(states):
        return tuple(tuple(state.values()) for state in states)

    states = [first_state(net) for net in nets]
    found, left = {}, [states]
    while left:
        states = left.pop()
        if key_of(states) not in found:
            found[key_of(states)] = {}
            for row in rows:
                told = [answer(net, state, row) for net, state in zip(nets, states)]
                after = [state for _, state in told]
                found[key_of(states)][row] = (tuple(outputs for outputs, _ in told), key_of(after))
                left.append(after)
    return found, key_of([first_state(net) for net in nets])


def shortest(nets, rows, wanted):
    """Return the least number of rows of a history whose last answers are wanted, or None."""
    steps, start = explore(nets, rows)
    seen, layer, many = set(), {start}, 0
    while layer:
        many += 1
        if any(wanted(told) for key in layer for told, _ in steps[key].values()):
            return many
        seen |= layer
        layer = {after for key in layer for _, after in steps[key].values()} - seen
    return None


def least_machine(net, rows):
    """Return the least machine, by splitting classes of states round by round."""
    steps, start = explore([net], rows)
    kind = {key: tuple(told for told, _ in steps[key].values()) for key in steps}
    while True:
        finer = {key: (kind[key], tuple(kind[after] for _, after in steps[key].values())) for key in steps}
        numbers = {value: k for k, value in enumerate(dict.fromkeys(finer.values()))}
        finer = {key: numbers[finer[key]] for key in steps}
        if len(set(finer.values())) == len(set(kind.values())):
            break
        kind = finer
    order, machine = [kind[start]], []
    chosen = {kind[start]: start}
    while len(machine) < len(order):
        key = chosen[order[len(machine)]]
        pairs = []
        for told, after in steps[key].values():
            if kind[after] not in chosen:
                chosen[kind[after]] = after
                order.append(kind[after])
            pairs.append((told[0], order.index(kind[after])))
        machine.append(pairs)
    return machine
