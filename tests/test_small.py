"""Nets and rows from small ranges: points 34 and 35."""

import itertools
import random
import unittest

import netcheck
import smallcheck
from netkit import RaisedCase, delay_line, net_of, out, pipeline, x
from samples import ODD_VALUES, deep_value, variants
from stepblocks.errors import BadRanges, OtherPorts, TooManyStates, UnknownPort
from stepblocks.least import least_net
from stepblocks.nets import Net
from stepblocks.small import history_apart, history_to, least_machine, reached_states, rows_of

TOP = 2 ** 32 - 1
BITS = {"x": [0, 1]}
WORDS = ("const 0", "const 1", "const 2", "add", "sub", "mul", "less", "equal", "pick", "divide", "delay 0", "delay 0",
         "delay 1", "delay 2")


def counter(top, steps="const 1"):
    """Return a net that counts from 0 to top, over and over; it goes on only as x is not 0."""
    return net_of("x", {"d": "delay 0", "k": steps, "s": "add", "m": f"const {top + 1}", "q": "divide", "p": "pick"}, {
        "d.in": out("p"), "s.a": out("d"), "s.b": out("k"), "q.a": out("s"), "q.b": out("m"), "p.c": x(),
        "p.a": out("q", "rest"), "p.b": out("d")}, {"o": out("d"), "out": out("p")})


def bits(many):
    """Return a net that keeps the last so many values of x."""
    parts, wires, last = delay_line(many, x(), "delay 0")
    return net_of("x", parts, wires, {"o": last})


class SmallCase(RaisedCase):
    def check_to(self, net, ranges, output, values):
        rows = smallcheck.rows_of(net, ranges)
        place = net.outputs.index(output)
        told = history_to(net, ranges, output, values)
        expected = smallcheck.shortest([net], rows, lambda told: told[0][place] in values)
        if expected is None:
            self.assertIsNone(told)
            return 0
        self.assertEqual((type(told), {type(row) for row in told}), (list, {tuple}))
        self.assertEqual(len(told), expected)
        self.assertTrue(set(told) <= set(rows))
        self.assertIn(netcheck.answers_of(net.inputs, net.outputs, net.parts, net.wires, told)[-1][place], values)
        return expected

    def check_apart(self, net, other, ranges):
        rows = smallcheck.rows_of(net, ranges)
        told = history_apart(net, other, ranges)
        expected = smallcheck.shortest([net, other], rows, lambda told: told[0] != told[1])
        if expected is None:
            self.assertIsNone(told)
            return 0
        self.assertEqual((type(told), {type(row) for row in told}), (list, {tuple}))
        self.assertEqual(len(told), expected)
        self.assertTrue(set(told) <= set(rows))
        self.assertNotEqual(net(told)[-1], other(told)[-1])
        return expected

    def check_machine(self, net, ranges):
        told = least_machine(net, ranges)
        self.assertEqual(told, smallcheck.least_machine(net, smallcheck.rows_of(net, ranges)))
        self.assertEqual({type(pairs) for pairs in told}, {list})
        self.assertEqual({(type(pair), type(pair[0]), type(pair[1])) for pairs in told for pair in pairs},
                         {(tuple, tuple, int)})
        return told

    def check_states(self, net, ranges):
        told = reached_states(net, ranges)
        steps, _ = smallcheck.explore([net], smallcheck.rows_of(net, ranges))
        self.assertEqual(sorted(tuple(state.values()) for state in told), sorted(key for key, in steps))
        for state in told:
            self.assertEqual(list(state), list(smallcheck.first_state(net)))
        return told


class RangesTest(SmallCase):
    def test_order_of_rows(self):
        net = net_of("xyz", {}, {})
        self.assertEqual(rows_of(net, {"z": [5], "y": [3, 1], "x": [9, 0, 7]}),
                         [(9, 3, 5), (9, 1, 5), (0, 3, 5), (0, 1, 5), (7, 3, 5), (7, 1, 5)])
        self.assertEqual(rows_of(ranges={"x": [TOP], "y": [0], "z": [1, 2]}, net=net), [(TOP, 0, 1), (TOP, 0, 2)])
        self.assertEqual(rows_of(net_of("", {}, {}), {}), [()])

    def test_sixteen_rows(self):
        net = net_of("abcd", {}, {})
        two = [0, 1]
        self.assertEqual(len(rows_of(net, {"a": two, "b": two, "c": two, "d": two})), 16)
        self.assertEqual(len(rows_of(net, {"a": [0, 1, 2, 3], "b": [4, 5, 6, 7], "c": [0], "d": [0]})), 16)
        for ranges in ({"a": [0, 1, 2], "b": two, "c": two, "d": two}, {"a": [0, 1, 2, 3], "b": [4, 5, 6, 7], "c": two,
                                                                         "d": [0]},
                       {"a": [0, 1, 2], "b": [0, 1, 2], "c": two, "d": [0]}):
            self.refuse(net, ranges)
        eight = net_of("abcdefgh", {}, {})
        self.assertEqual(rows_of(eight, {name: [k] for k, name in enumerate("abcdefgh")}), [tuple(range(8))])
        self.refuse(eight, {name: [0, 1, 2, 3] for name in "abcdefgh"})

    def refuse(self, net, ranges):
        self.assertFalse(smallcheck.judge_ranges(net, ranges))
        for call in (rows_of, reached_states, least_machine):
            self.assertEqual(self.raised(BadRanges, call, net, ranges), {})
        self.assertEqual(self.raised(BadRanges, history_to, net, ranges, "z", [0]), {})
        self.assertEqual(self.raised(BadRanges, history_to, net, ranges, [], []), {})
        self.assertEqual(self.raised(BadRanges, history_apart, net, net, ranges), {})

    def test_wrong_ranges(self):
        net = net_of("xy", {}, {}, {"o": x()})
        right = {"x": [0, 1], "y": [2]}
        for value in (*ODD_VALUES, deep_value(50), {"x": [0]}, {**right, "z": [0]}, {**right, ("x",): [0]},
                      {"x": [0], (): [0]}, [("x", [0]), ("y", [0])], [[0, 1], [2]]):
            self.refuse(net, value)
        for items in ([], [0, 1, 2, 3, 4], [0, 0], [1, 2, 1], [-1], [TOP + 1], [True], [False, 1], [None], ["0"], [[0]],
                      [(0,)], [{}], [0.5], (0, 1), {0: 1}, "01", 0, None, True, [0, deep_value(40)], range(2)):
            self.refuse(net, {**right, "x": items})
            self.refuse(net, {**right, "y": items})

    def test_variants_of_ranges(self):
        net = net_of("xy", {}, {}, {"o": x()})
        for items in variants([3, 1]):
            for value in ({"x": items, "y": [0]}, {"y": [0], "x": items}, {"x": [0, 2], "y": items}):
                if smallcheck.judge_ranges(net, value):
                    self.assertEqual(rows_of(net, value), smallcheck.rows_of(net, value))
                else:
                    self.refuse(net, value)

    def test_nets_without_inputs(self):
        net = net_of("", {"d": "delay 0"}, {"d.in": out("d")}, {"o": out("d")})
        for value in (None, [], (), {"x": [0]}, {(): [0]}, [()]):
            self.refuse(net, value)
        self.assertEqual(reached_states(net, {}), [{("d",): 0}])
        self.assertEqual(least_machine(net, {}), [[((0,), 0)]])
        self.assertEqual(history_to(net, {}, "o", [0]), [()])


class StatesTest(SmallCase):
    def test_states_of_a_line(self):
        self.assertEqual(len(self.check_states(bits(4), BITS)), 16)
        self.assertEqual(len(self.check_states(bits(3), {"x": [5, 7, 9]})), 40)
        self.assertEqual(self.check_states(Net((), (), (), ()), {}), [{}])
        self.assertEqual(self.check_states(pipeline(["add"], [0, 0]), BITS), [{}])

    def test_three_hundred_states(self):
        for top, right in ((298, True), (299, True), (300, False), (1000, False)):
            net = counter(top)
            calls = [(reached_states, net, BITS), (history_to, net, BITS, "o", [0]), (history_to, net, BITS, "o", [7]),
                     (history_to, net, BITS, "o", []), (least_machine, net, BITS), (history_apart, net, net, BITS)]
            for call, *args in calls:
                if right:
                    call(*args)
                else:
                    self.assertEqual(self.raised(TooManyStates, call, *args), {})
        self.assertEqual(len(reached_states(counter(299), BITS)), 300)
        self.assertEqual(len(history_to(counter(299), BITS, "o", [299])), 300)
        self.assertEqual(len(history_to(counter(299), BITS, "out", [299])), 299)
        self.assertEqual(len(least_machine(counter(299), BITS)), 300)
        self.assertEqual(reached_states(counter(1000), {"x": [0]}), [{("d",): 0}])

    def test_three_hundred_pairs(self):
        # Histories reach each pair of states of two counters that go round in different times.
        for one, other, right in ((3, 4, True), (14, 18, True), (11, 24, True), (20, 14, True), (6, 42, False),
                                  (298, 298, True), (299, 299, True), (299, 149, True), (16, 17, False)):
            pairs = (one + 1) * (other + 1) // _gcd(one + 1, other + 1)
            self.assertIs(pairs <= 300, right)
            if right:
                self.assertIs(history_apart(counter(one), counter(other), BITS) is None, one == other)
            else:
                self.assertEqual(self.raised(TooManyStates, history_apart, counter(one), counter(other), BITS), {})
        # Each net alone may have 300 states.
        self.assertEqual(self.raised(TooManyStates, history_apart, counter(299), counter(298), BITS), {})

    def test_what_is_told_is_new_and_what_is_given_stays(self):
        net, ranges = bits(2), {"x": [0, 1]}
        told = reached_states(net, ranges)
        told[0].clear()
        told.clear()
        self.assertEqual(len(self.check_states(net, ranges)), 4)
        rows_of(net, ranges).clear()
        least_machine(net, ranges)[0].clear()
        history_to(net, ranges, "o", [1]).clear()
        self.assertEqual((rows_of(net, ranges), len(least_machine(net, ranges)), ranges), ([(0,), (1,)], 4, BITS))
        values = [1]
        history_to(net, ranges, "o", values)
        self.assertEqual(values, [1])


def _gcd(one, other):
    while other:
        one, other = other, one % other
    return one


class HistoryToTest(SmallCase):
    def test_example_of_the_document(self):
        net = net_of("x", {"t": "delay 0", "n": "equal"}, {"t.in": out("n"), "n.a": out("t"), "n.b": x()}, {"o": out("n")})
        self.assertEqual(history_to(net, {"x": [0, 1]}, "o", [0]), [(1,)])
        self.assertEqual(least_machine(net, {"x": [0, 1]}), [[((1,), 1), ((0,), 0)], [((0,), 0), ((1,), 1)]])
        self.assertEqual(history_to(values=[0], output="o", ranges=BITS, net=net), [(1,)])
        self.assertEqual(least_machine(ranges=BITS, net=net), least_machine(net, BITS))
        self.assertEqual(reached_states(ranges=BITS, net=net), [{("t",): 0}, {("t",): 1}])

    def test_shortest(self):
        for many in (1, 2, 6):
            self.assertEqual(history_to(bits(many), {"x": [0, 1]}, "o", [1])[:1], [(1,)])
            self.assertEqual(self.check_to(bits(many), BITS, "o", [1]), many + 1)
        net = counter(9)
        for value in range(12):
            self.assertEqual(self.check_to(net, BITS, "o", [value]), value + 1 if value < 10 else 0)
            self.assertEqual(self.check_to(net, BITS, "out", [value]), max(1, value) if value < 10 else 0)

    def test_values(self):
        net = counter(9)
        for values, many in (([], 0), ([-1, 10 ** 30], 0), ([7, 3, 5], 4), ([3] * 20, 4), ([0, 9], 1), ([11, 8, -5], 9)):
            self.assertEqual(self.check_to(net, BITS, "o", values), many)

    def test_unknown_ports(self):
        net = counter(400)
        for value in (*ODD_VALUES, deep_value(50), "x", "d", "O", "o ", ("o",), ((), "o"), ["o"]):
            if value != "out":
                self.assertEqual(self.raised(UnknownPort, history_to, net, BITS, value, [0]), {"name": value})
        self.assertEqual(self.raised(BadRanges, history_to, net, {}, "z", [0]), {})
        self.assertEqual(self.raised(TooManyStates, history_to, net, BITS, "o", [0]), {})

    def test_random_nets(self):
        chance, found = random.Random(111), {}
        for _ in range(200):
            net = netcheck.random_net(chance, Net, chance.randrange(1, 9), WORDS)
            ranges = {"x": chance.sample(range(4), chance.randrange(1, 4)), "y": chance.sample((0, 1, TOP), 1)}
            try:
                self.check_states(net, ranges)
            except TooManyStates:
                self.raised(TooManyStates, least_machine, net, ranges)
                self.raised(TooManyStates, history_to, net, ranges, "p", [0])
                self.raised(TooManyStates, history_apart, net, net, ranges)
                found["many"] = found.get("many", 0) + 1
                continue
            self.check_machine(net, ranges)
            for output in ("o", "p"):
                for values in ([0], [1], [2], [3, TOP], [7]):
                    many = self.check_to(net, ranges, output, values)
                    found[many] = found.get(many, 0) + 1
        self.assertTrue(all(found.get(many, 0) > 5 for many in (0, 1, 2, 3)), found)
        self.assertGreater(found.get("many", 0), 1)


class ApartTest(SmallCase):
    def test_errors_in_their_order(self):
        net = counter(400)
        for other in (net_of("y", {}, {}, {"o": x("y"), "out": x("y")}), net_of("x", {}, {}, {"o": x()}),
                      net_of("x", {}, {}, {"out": x(), "o": x()})):
            for ranges in (BITS, None, {}):
                self.assertEqual(self.raised(OtherPorts, history_apart, net, other, ranges), {})
                self.assertEqual(self.raised(OtherPorts, history_apart, other, net, ranges), {})
        self.assertEqual(self.raised(BadRanges, history_apart, net, net, None), {})
        self.assertEqual(self.raised(TooManyStates, history_apart, net, net, BITS), {})
        # The first row would tell them apart, but the pairs are too many whatever is asked.
        other = counter(400).parts
        different = Net(net.inputs, net.outputs, tuple((path, "delay 1" if text == "delay 0" else text)
                                                       for path, text in other), net.wires)
        self.assertEqual(self.raised(TooManyStates, history_apart, net, different, BITS), {})

    def test_shortest(self):
        for many in (0, 1, 2, 5):
            self.assertEqual(self.check_apart(bits(many), bits(many + 1), BITS), many + 1)
            self.assertEqual(self.check_apart(bits(many), bits(many), BITS), 0)
        self.assertEqual(self.check_apart(counter(3), counter(7), BITS), 4)
        self.assertEqual(self.check_apart(counter(3), counter(7), {"x": [0]}), 0)
        self.assertEqual(history_apart(ranges=BITS, other=bits(1), net=bits(0)), [(1,)])

    def test_nets_that_differ_elsewhere(self):
        one, other = net_of("x", {"s": "add"}, {"s.a": x(), "s.b": x()}, {"o": out("s")}), net_of(
            "x", {"s": "mul"}, {"s.a": x(), "s.b": x()}, {"o": out("s")})
        self.assertEqual(self.check_apart(one, other, {"x": [0, 2]}), 0)
        self.assertEqual(self.check_apart(one, other, {"x": [0, 2, 3]}), 1)

    def test_random_nets(self):
        chance, found = random.Random(112), {}
        for _ in range(300):
            net = netcheck.random_net(chance, Net, chance.randrange(2, 9), WORDS)
            other = netcheck.random_net(chance, Net, chance.randrange(2, 9), WORDS)
            if chance.random() < 0.7:
                parts, wires = list(net.parts), list(net.wires)
                k = chance.randrange(len(parts))
                parts[k] = (parts[k][0], {"delay 0": "delay 1", "add": "sub", "mul": "less"}.get(parts[k][1], parts[k][1]))
                other = Net(net.inputs, net.outputs, tuple(parts), tuple(wires))
            ranges = {"x": chance.sample(range(3), 2), "y": [chance.randrange(3)]}
            try:
                many = self.check_apart(net, other, ranges)
            except TooManyStates:
                continue
            found[many] = found.get(many, 0) + 1
        self.assertTrue(all(found.get(many, 0) > 3 for many in (0, 1, 2)), found)


class MachineTest(SmallCase):
    def test_classes_are_numbered_as_they_are_met(self):
        machine = self.check_machine(counter(5), BITS)
        self.assertEqual(machine, [[((k, k), k), ((k, (k + 1) % 6), (k + 1) % 6)] for k in range(6)])
        machine = self.check_machine(counter(2), {"x": [1, 0]})
        self.assertEqual(machine, [[((k, (k + 1) % 3), (k + 1) % 3), ((k, k), k)] for k in range(3)])

    def test_states_that_answer_alike_are_one_class(self):
        # Only whether the counter is even can be seen.
        net = counter(7)
        parts = dict(net.parts)
        wires = [(target, source) for target, source in net.wires if target[0]]
        parts.update({("two",): "const 2", ("e",): "divide"})
        wires += [((("e",), "a"), out("d")), ((("e",), "b"), out("two")), (((), "o"), out("e", "rest"))]
        even = Net(("x",), ("o",), tuple(parts.items()), tuple(wires))
        self.assertEqual(len(reached_states(even, BITS)), 8)
        self.assertEqual(self.check_machine(even, BITS), [[((0,), 0), ((0,), 1)], [((1,), 1), ((1,), 0)]])

    def test_nothing_to_see(self):
        parts, wires, _ = delay_line(5, x(), "delay 0")
        self.assertEqual(self.check_machine(net_of("x", parts, wires), BITS), [[((), 0), ((), 0)]])
        self.assertEqual(least_machine(Net((), (), (), ()), {}), [[((), 0)]])

    def test_it_answers_as_the_net_does(self):
        chance = random.Random(113)
        for _ in range(60):
            net = netcheck.random_net(chance, Net, chance.randrange(2, 9), WORDS)
            ranges = {"x": [0, 1, 2], "y": [1, 0]}
            try:
                machine = least_machine(net, ranges)
            except TooManyStates:
                continue
            rows = smallcheck.rows_of(net, ranges)
            history = [chance.choice(rows) for _ in range(15)]
            at, told = 0, []
            for row in history:
                outputs, at = machine[at][rows.index(row)]
                told.append(outputs)
            self.assertEqual(told, net(history))
            self.assertEqual(least_machine(least_net(net), ranges), machine)

    def test_many_states_that_are_told_apart_late(self):
        parts, wires, last = delay_line(8, x(), "delay 0")
        machine = least_machine(net_of("x", parts, wires, {"o": last}), BITS)
        self.assertEqual(len(machine), 256)
        net = counter(299)
        wires = [(target, source) for target, source in net.wires if target[0]]
        parts = net.parts + ((("top",), "const 299"), (("e",), "equal"))
        wires += [((("e",), "a"), out("d")), ((("e",), "b"), out("top")), (((), "o"), out("e"))]
        self.assertEqual(len(least_machine(Net(("x",), ("o",), parts, tuple(wires)), BITS)), 300)

    def test_functions_asked_in_turns(self):
        nets = [counter(top) for top in (2, 3, 5)]
        alone = [(least_machine(net, BITS), reached_states(net, BITS), history_to(net, BITS, "o", [2])) for net in nets]
        for one, other in itertools.permutations(range(3), 2):
            self.assertEqual(least_machine(nets[one], BITS), alone[one][0])
            self.assertEqual(reached_states(nets[other], BITS), alone[other][1])
            self.assertEqual(history_to(nets[one], BITS, "o", [2]), alone[one][2])


if __name__ == "__main__":
    unittest.main()
