"""Point 37: what holds of the functions together."""

import itertools
import random
import unittest

import movecheck
import netcheck
from netkit import net_of, out, x
from stepblocks.counts import count_delays, fewest_delays
from stepblocks.errors import DelayRing, TooManyStates
from stepblocks.least import least_net, needed_parts, part_classes
from stepblocks.linear import first_history
from stepblocks.lines import are_good, line_of, moved_net
from stepblocks.nets import Net
from stepblocks.netruns import NetRun
from stepblocks.periods import bar_for, least_moves, least_period, period
from stepblocks.readings import are_alike
from stepblocks.small import history_apart, reached_states
from test_linear import deep_linear, random_linear
from test_periods import RULES, wide_net

WORDS = ("const 0", "const 1", "add", "add", "sub", "mul", "divide", "delay 0", "delay 0", "delay 1")


def random_costs(chance, most=6):
    return {word: chance.randrange(most) for word in RULES}


def doubled(chance, net):
    """Return a net in which some parts stand twice, and what is wired to them is wired to either one."""
    twice = {path: (path[0][:3] + "zz",) for path, _ in net.parts if chance.random() < 0.6}
    parts, wires = list(net.parts), []

    def either(source):
        path, name = source
        return (chance.choice((path, twice[path])), name) if path in twice else source

    for target, source in net.wires:
        if target[0]:
            wires.append((target, either(source)))
    for path, text in net.parts:
        if path in twice:
            parts.append((twice[path], text))
            wires += [((twice[path], target[1]), either(source)) for target, source in net.wires if target[0] == path]
    wires += [(target, either(source)) for target, source in net.wires if not target[0]]
    return Net.wide(net.inputs, net.outputs, tuple(parts), tuple(wires))


def all_needed(net):
    return set(movecheck.movable(net)) <= set(needed_parts(net))


class FactsTest(unittest.TestCase):
    def test_alike_outputs_are_equal(self):
        chance, found = random.Random(131), 0
        for _ in range(100):
            net = netcheck.random_net(chance, Net, 7, WORDS)
            other = least_net(net)
            self.assertTrue(all(are_alike(net, dict(net.wires)[((), name)], other, dict(other.wires)[((), name)])
                                for name in net.outputs))
            history = [tuple(chance.randrange(5) for _ in net.inputs) for _ in range(10)]
            self.assertEqual(net(history), other(history))
            found += len(other) < len(net)
        self.assertGreater(found, 50)

    def test_least_nets_have_no_greater_periods(self):
        chance, smaller = random.Random(132), 0
        for _ in range(120):
            net = doubled(chance, wide_net(chance, chance.randrange(1, 9), chance.randrange(7)))
            costs, least = random_costs(chance), least_net(net)
            smaller += len(least) < len(net)
            self.assertLessEqual(period(least, costs=costs), period(net, costs=costs))
            self.assertLessEqual(least_period(least, costs=costs), least_period(net, costs=costs))
        self.assertGreater(smaller, 60)

    def test_least_nets_of_nets_with_delay_rings(self):
        net = net_of("x", {"a": "delay 1", "b": "delay 1", "c": "delay 2", "s": "add"}, {
            "a.in": out("b"), "b.in": out("a"), "c.in": x(), "s.a": out("a"), "s.b": out("c")}, {"o": out("s")})
        self.assertRaises(DelayRing, count_delays, net)
        # The ring is steady, so that the least net has none.
        self.assertEqual(count_delays(least_net(net)), 1)

    def test_sums_of_moves(self):
        chance, found = random.Random(133), 0
        for _ in range(150):
            net = wide_net(chance, chance.randrange(1, 8), chance.randrange(1, 9))
            costs = random_costs(chance)
            moves = fewest_delays(net, costs=costs, bound=period(net, costs=costs))
            moved = moved_net(net, moves)
            more = least_moves(moved, costs=costs, bound=least_period(moved, costs=costs))
            both = {path: moves[path] + more[path] for path in moves}
            self.assertIs(are_good(net, both), True)
            one, two = moved_net(moved, more), moved_net(net, both)
            for target in movecheck.targets_of(net):
                self.assertEqual(line_of(one, target), line_of(two, target))
            found += any(moves.values()) and any(more.values())
        self.assertGreater(found, 3)

    def test_moves_for_greater_bounds(self):
        chance, found = random.Random(134), 0
        for _ in range(60):
            net, costs = wide_net(chance, chance.randrange(3, 10), chance.randrange(8)), random_costs(chance)
            least, greatest = least_period(net, costs=costs), period(net, costs=costs)
            told = [least_moves(net, costs=costs, bound=bound) for bound in range(max(0, least - 2), greatest + 2)]
            for one, other in zip(told, told[1:]):
                if one is not None:
                    self.assertTrue(all(other[path] <= one[path] for path in one))
                    found += any(one.values())
        self.assertGreater(found, 30)

    def test_moves_of_alike_parts(self):
        chance, found, apart = random.Random(135), 0, 0
        while found < 80:
            net = doubled(chance, wide_net(chance, chance.randrange(2, 7), chance.randrange(1, 8)))
            if not all_needed(net):
                continue
            costs, least = random_costs(chance), least_net(net)
            classes = {path: group for group in part_classes(net) for path in group}
            for bound in range(max(0, least_period(net, costs=costs) - 1), period(net, costs=costs) + 1):
                moves, fewer = [least_moves(any_net, costs=costs, bound=bound) for any_net in (net, least)]
                self.assertIs(moves is None, fewer is None)
                self.assertIs(bar_for(net, costs=costs, bound=bound) is None,
                              bar_for(least, costs=costs, bound=bound) is None)
                if moves is not None:
                    for path in fewer:
                        alike = [moves[other] for other in classes[path]]
                        self.assertEqual(fewer[path], max(alike))
                        apart += len(set(alike)) > 1
                    found += any(moves.values())
        self.assertGreater(apart, 0)

    def test_nothing_parts_nets_with_alike_outputs(self):
        chance, linear, small = random.Random(136), 0, 0
        for _ in range(150):
            net = random_linear(chance, chance.randrange(1, 8))
            other = least_net(doubled(chance, net))
            linear += len(other) < len(net)
            self.assertIsNone(first_history(net, other))
            self.assertIsNone(first_history(net, doubled(chance, net)))
            net = netcheck.random_net(chance, Net, chance.randrange(1, 8), WORDS)
            try:
                self.assertIsNone(history_apart(net, least_net(net), {"x": [0, 1], "y": [2]}))
                small += 1
            except TooManyStates:
                pass
        self.assertGreater(min(linear, small), 50)

    def test_linear_nets_and_bits(self):
        chance, found = random.Random(137), {}
        for _ in range(400):
            net = chance.choice((random_linear(chance, chance.randrange(1, 7)), deep_linear(chance, chance.randrange(1, 9))))
            parts = [(path, {"delay 0": "delay 1", "add": "sub"}.get(text, text) if chance.random() < 0.2 else text)
                     for path, text in net.parts]
            other = Net(net.inputs, net.outputs, tuple(parts), net.wires)
            try:
                told = history_apart(net, other, {name: [0, 1] for name in net.inputs})
            except TooManyStates:
                continue
            first = first_history(net, other)
            self.assertEqual(told and len(told), first and len(first))
            many = len(told or [])
            found[many] = found.get(many, 0) + 1
        self.assertTrue(all(found.get(many, 0) > 5 for many in (0, 1, 2)), found)

    def test_runs_and_states(self):
        chance = random.Random(138)
        for _ in range(40):
            net = netcheck.random_net(chance, Net, 6, ("const 1", "less", "equal", "delay 0", "delay 1", "pick"))
            run, ranges = NetRun(net), {"x": [0, 1], "y": [0, 1]}
            states = reached_states(net, ranges)
            for _ in range(8):
                run.go((chance.randrange(2), chance.randrange(2)))
                now = {path: int(text.split()[1]) for path, text in run.now().parts if text.startswith("delay")}
                self.assertIn(now, states)
                self.assertTrue(all(state in states for state in reached_states(run.now(), ranges)))


class TurnsTest(unittest.TestCase):
    def test_functions_asked_in_turns(self):
        chance = random.Random(139)
        nets = [wide_net(chance, 6, 5) for _ in range(4)]
        costs = [random_costs(chance) for _ in nets]

        def all_told(k):
            net = nets[k]
            least = least_period(net, costs=costs[k])
            return [part_classes(net), needed_parts(net), least_net(net).parts, period(net, costs=costs[k]), least,
                    least_moves(net, costs=costs[k], bound=least), fewest_delays(net, costs=costs[k], bound=least),
                    bar_for(net, costs=costs[k], bound=max(0, least - 1)), count_delays(net),
                    moved_net(net, least_moves(net, costs=costs[k], bound=least)).wires]

        alone = [all_told(k) for k in range(4)]
        for one, other in itertools.permutations(range(4), 2):
            self.assertEqual((all_told(one), all_told(other)), (alone[one], alone[other]))


if __name__ == "__main__":
    unittest.main()
