"""Points 24 to 31 once more, word by word: classes, lines, moves, periods, routes, bars and shares."""

import itertools

import netcheck
from netcheck import PORTS

COSTS = {"add": 1, "sub": 1, "mul": 5, "less": 1, "equal": 1, "pick": 1, "divide": 9}


def word_of(net, path):
    return dict(net.parts)[path].split()[0] if path else ""


def movable(net):
    return [path for path, text in net.parts if text.split()[0] not in ("const", "delay")]


def outputs_of(net, path):
    return [(path, name) for name in PORTS[word_of(net, path)][1]]


def alike_parts(net, path, second, known):
    one, two = outputs_of(net, path), outputs_of(net, second)
    return len(one) == len(two) and all(
        netcheck.first_parting(net, source, net, other, known, known) is None for source, other in zip(one, two))


def classes(net):
    known, found = {}, []
    for path, _ in net.parts:
        for group in found:
            if alike_parts(net, group[0], path, known):
                group.append(path)
                break
        else:
            found.append([path])
    return found


def is_steady(net, path):
    text, known = dict(net.parts)[path], {}
    if text.split()[0] not in ("const", "delay"):
        return False
    many = netcheck.count_delays(net) + 2
    return all(netcheck.term_of(net, (path, "out"), instant, known) == ("value", int(text.split()[1]))
               for instant in range(many))


def needed(net):
    found, grown = {source[0] for target, source in net.wires if not target[0]} - {()}, True
    while grown:
        more = {source[0] for target, source in net.wires
                if target[0] in found and not is_steady(net, target[0])} - {()}
        grown = not more <= found
        found |= more
    return [path for path, _ in net.parts if path in found]


def judge_least(net, least):
    """Check that a net is a least net of another one."""
    assert (least.inputs, least.outputs) == (net.inputs, net.outputs)
    known, other_known = {}, {}
    wired, other_wired = dict(net.wires), dict(least.wires)
    for name in net.outputs:
        source, second = wired[((), name)], other_wired[((), name)]
        assert netcheck.first_parting(net, source, least, second, known, other_known) is None, name
    for path, text in least.parts:
        assert not is_steady(least, path) or text.startswith("const"), path
    wanted = set(needed(net))
    assert len(least.parts) == sum(bool(wanted & set(group)) for group in classes(net))


def has_delay_ring(net):
    wired = {target[0]: source[0] for target, source in net.wires if word_of(net, target[0]) == "delay"}
    for start in wired:
        path = start
        for _ in wired:
            path = wired.get(path)
            if path == start:
                return True
    return False


def targets_of(net):
    return [target for target, _ in net.wires if word_of(net, target[0]) != "delay"]


def delays_of(net, target):
    """Return the head of a line and the paths of its delays."""
    wired, found = dict(net.wires), []
    source = wired[target]
    while word_of(net, source[0]) == "delay":
        found.append(source[0])
        source = wired[(source[0], "in")]
    return source, found


def line(net, target):
    head, passed = delays_of(net, target)
    return head, [int(dict(net.parts)[path].split()[1]) for path in passed]


def is_const_head(net, head):
    return word_of(net, head[0]) == "const"


def is_integer(value):
    return type(value) is int


def judge_moves(net, value):
    if type(value) is not dict or set(value) != set(movable(net)):
        return False
    if not all(is_integer(value[path]) and 0 <= value[path] <= 100 for path in value):
        return False
    for target in targets_of(net):
        head, values = line(net, target)
        if not is_const_head(net, head):
            if len(values) - value.get(target[0], 0) + value.get(head[0], 0) < 0:
                return False
    return True


def target_values(net, target, many, history):
    """Return the values of a target in the first instants of a history."""
    wires = tuple(wire for wire in net.wires if wire[0][0]) + ((((), "seen"), dict(net.wires)[target]),)
    return [row[0] for row in netcheck.answers_of(net.inputs, ("seen",), net.parts, wires, history[:many])]


def judge_moved(net, moves, moved, chance):
    """Check that a net is the net moved by moves, as point 27 says."""
    assert (moved.inputs, moved.outputs) == (net.inputs, net.outputs)
    others = [part for part in net.parts if not part[1].startswith("delay")]
    assert [part for part in moved.parts if not part[1].startswith("delay")] == others
    assert not has_delay_ring(moved)
    used = []
    assert sorted(targets_of(moved)) == sorted(targets_of(net))
    most = 2 * max([0, *moves.values()]) + netcheck.count_delays(net) + 2
    histories = [[tuple(chance.randrange(2 ** 32) for _ in net.inputs) for _ in range(most)] for _ in range(2)]
    for target in targets_of(net):
        head, values = line(net, target)
        new_head, passed = delays_of(moved, target)
        assert new_head == head
        used += passed
        ahead = moves.get(target[0], 0)
        many = max(0, len(values) - ahead) if is_const_head(net, head) else (
            len(values) - ahead + moves.get(head[0], 0))
        assert len(passed) == many, target
        for history in histories:
            expected = target_values(net, target, ahead + many, history)[ahead:]
            assert line(moved, target)[1] == expected, (target, line(moved, target)[1], expected)
    assert len(set(used)) == len(used)
    assert {path for path, text in moved.parts if text.startswith("delay")} == set(used)
    for history in histories:
        told = moved(history)
        assert told == netcheck.answers_of(net.inputs, net.outputs, net.parts, net.wires, history)
        # A part computes in instant n what it computed, in the old net, in instant n + m.
        for path in movable(net):
            for name in PORTS[word_of(net, path)][1]:
                one, two = [netcheck.answers_of(any_net.inputs, ("seen",), any_net.parts, tuple(
                    wire for wire in any_net.wires if wire[0][0]) + ((((), "seen"), (path, name)),), history)
                    for any_net in (net, moved)]
                assert one[moves[path]:] == two[:most - moves[path]], path


def cost_of(net, path, costs):
    return costs[word_of(net, path)]


def wired_before(net, path):
    """Return the movable parts to whose outputs inputs of a part are wired."""
    return {source[0] for target, source in net.wires if target[0] == path and source[0] in movable(net)}


def period(net, costs):
    known = {}

    def longest(path):
        if path not in known:
            known[path] = cost_of(net, path, costs) + max([0, *[longest(one) for one in wired_before(net, path)]])
        return known[path]

    return max([0, *[longest(path) for path in movable(net)]])


def judge_chain(net, chain):
    return type(chain) is list and chain and all(path in movable(net) for path in chain) and all(
        one in wired_before(net, other) for one, other in zip(chain, chain[1:]))


def period_moved(net, moves, costs):
    """Return the period of the net moved by good moves, from its lines alone."""
    before = {path: set() for path in movable(net)}
    for target in targets_of(net):
        head, values = line(net, target)
        if target[0] in before and head[0] in before and len(values) - moves[target[0]] + moves[head[0]] == 0:
            before[target[0]].add(head[0])
    known = {}

    def longest(path):
        if path not in known:
            known[path] = cost_of(net, path, costs) + max([0, *[longest(one) for one in before[path]]])
        return known[path]

    return max([0, *[longest(path) for path in before]])


def all_good(net, most):
    paths = movable(net)
    for numbers in itertools.product(range(most + 1), repeat=len(paths)):
        moves = dict(zip(paths, numbers))
        if judge_moves(net, moves):
            yield moves


def least_of(choices):
    """Return the least moves of some, part by part, which must be among them; None of none."""
    if not choices:
        return None
    least = {path: min(moves[path] for moves in choices) for path in choices[0]}
    assert least in choices
    return least


def judge_route(net, value, costs, bound):
    """Return (start, end, bound) of a route, or None; the ends are paths, or ("input", name) and ("output", name)."""
    if type(value) is not tuple or len(value) != 2 or not netcheck.is_strict_port(value[0]):
        return None
    start, targets = value
    if type(targets) is not tuple or start not in netcheck.sources_of(net):
        return None
    if word_of(net, start[0]) in ("const", "delay"):
        return None
    place = start[0] if start[0] else ("input", start[1])
    first, delays, cost = place, 0, cost_of(net, start[0], costs) if start[0] else 0
    if not targets and not start[0]:
        return None
    for k, target in enumerate(targets):
        if not netcheck.is_strict_port(target) or target not in targets_of(net) or place[0] == "output":
            return None
        head, values = line(net, target)
        if k == 0 and head != start or k > 0 and head[0] != place:
            return None
        delays += len(values)
        place = target[0] if target[0] else ("output", target[1])
        cost += cost_of(net, target[0], costs) if target[0] else 0
    return first, place, delays - (cost > bound)


def judge_bar(net, value, costs, bound):
    if type(value) is not list or not value:
        return False
    judged = [judge_route(net, route, costs, bound) for route in value]
    if None in judged or sum(told[2] for told in judged) >= 0:
        return False
    if any(other[1] != one[0] for one, other in zip(judged, judged[1:])):
        return False
    return judged[-1][0][0] == "input" or judged[-1][0] == judged[0][1]


def count_delays(net):
    lines = [line(net, target) for target in targets_of(net)]
    return sum(len(values) for head, values in lines if not is_const_head(net, head))


def judge_shares(net, value, costs, bound):
    """Return what shares show, or None."""
    if type(value) is not list:
        return None
    for share in value:
        if type(share) is not tuple or len(share) != 2 or not is_integer(share[0]) or share[0] < 1:
            return None
        if judge_route(net, share[1], costs, bound) is None:
            return None
    judged = [(amount, *judge_route(net, route, costs, bound)) for amount, route in value]
    heads = {target: line(net, target)[0] for target in targets_of(net)}
    for path in movable(net):
        given = sum(amount for amount, start, _, _ in judged if start == path)
        taken = sum(amount for amount, _, end, _ in judged if end == path)
        going = sum(head[0] == path for head in heads.values())
        coming = sum(target[0] == path and not is_const_head(net, heads[target]) for target in heads)
        if given - taken > going - coming:
            return None
    return count_delays(net) - sum(amount * limit for amount, _, _, limit in judged)


def all_routes(net, longest):
    """Yield all routes of at most so many targets."""
    targets = targets_of(net)
    heads = {target: line(net, target)[0] for target in targets}
    starts = [source for source in netcheck.sources_of(net) if word_of(net, source[0]) not in ("const", "delay")]
    for start in starts:
        if start[0]:
            yield (start, ())
        grown = [(target,) for target in targets if heads[target] == start]
        for _ in range(longest):
            yield from ((start, route) for route in grown)
            grown = [route + (target,) for route in grown if route[-1][0] for target in targets
                     if heads[target][0] == route[-1][0]]
