"""Linear nets: points 32 and 33."""

import itertools
import random
import unittest

import movecheck
import netcheck
from netkit import RaisedCase, delay_line, long_name, net_of, out, pipeline, x
from samples import COUNTER, ODD_VALUES, library_of
from stepblocks.errors import BadState, BadValue, NotLinear, OtherPorts, WrongCount
from stepblocks.linear import first_history, state_at, told_apart
from stepblocks.nets import Net

TOP = 2 ** 32
HALF = 2 ** 31
WORDS = ("const 0", "const 3", "const 2147483648", "add", "add", "sub", "sub", "delay 0", "delay 0", "delay 1",
         "delay 4294967295")
INPUTS, OUTPUTS = ("x", "y"), ("o", "p")


def is_linear_part(net, path):
    word = movecheck.word_of(net, path)
    consts = [source for target, source in net.wires if target[0] == path
              and source[0] and movecheck.word_of(net, source[0]) == "const"]
    return word in ("const", "add", "sub", "delay") or word == "mul" and bool(consts)


def first_odd_part(net):
    return next((path for path, _ in net.parts if not is_linear_part(net, path)), None)


def with_muls(chance, net):
    """Return a net in which some parts are muls by consts."""
    if net is None:
        return None
    parts, wires = list(net.parts), list(net.wires)
    consts = [(path, "out") for path, text in parts if text.startswith("const")]
    for k, (path, text) in enumerate(parts):
        if text in ("add", "sub") and consts and chance.random() < 0.5:
            parts[k] = (path, "mul")
            place = [target for target, _ in wires].index((path, chance.choice("ab")))
            wires[place] = (wires[place][0], chance.choice(consts))
    return Net.wide(net.inputs, net.outputs, tuple(parts), tuple(wires))


def random_linear(chance, many, words=WORDS, inputs=INPUTS, outputs=OUTPUTS):
    while True:
        net = with_muls(chance, netcheck.random_net(chance, Net, many, words, inputs, outputs))
        if net is not None:
            return net


def deep_linear(chance, many):
    """Return a net whose parts stand one behind the other, and are wired to some before them, too."""
    parts, wires, before = {"k": "const 3"}, {}, [x(), x("y")]
    for k in range(many):
        name = "p" + chr(97 + k)
        parts[name] = chance.choice(("delay 0", "delay 0", "delay 1", "add", "sub", "mul"))
        if parts[name].startswith("delay"):
            wires[f"{name}.in"] = before[-1]
        else:
            wires[f"{name}.a"] = before[-1]
            wires[f"{name}.b"] = out("k") if parts[name] == "mul" else chance.choice(before)
        before.append(out(name))
    return net_of("xy", parts, wires, {"o": before[-1]})


def with_state(net, state):
    """Return a net whose delays begin with other values."""
    parts = tuple((path, f"delay {state[path]}" if path in state else text) for path, text in net.parts)
    return Net.wide(net.inputs, net.outputs, parts, net.wires)


def delays_of(net):
    return [path for path, text in net.parts if text.startswith("delay")]


def first_state(net):
    return {path: int(text.split()[1]) for path, text in net.parts if text.startswith("delay")}


def state_after(net, state, row):
    """Return the state behind one instant, read off outputs that show what delays are fed with."""
    wired, told = dict(net.wires), {}
    for path in delays_of(net):
        wires = tuple(wire for wire in net.wires if wire[0][0]) + ((((), "seen"), wired[(path, "in")]),)
        parts = with_state(net, state).parts
        told[path] = netcheck.answers_of(net.inputs, ("seen",), parts, wires, [row])[0][0]
    return told


def power_of(net, row, instant):
    """Return the state ahead of an instant by the powers of a matrix, which is found by trying states."""
    paths = delays_of(net)
    zero = {path: 0 for path in paths}
    base = state_after(net, zero, row)
    columns = [state_after(net, {**zero, path: 1}, row) for path in paths]
    matrix = [[(column[path] - base[path]) % TOP for column in columns] + [base[path]] for path in paths]
    matrix.append([0] * len(paths) + [1])
    vector = [*first_state(net).values(), 1]
    while instant:
        if instant % 2:
            vector = [sum(a * b for a, b in zip(line, vector)) % TOP for line in matrix]
        columns = list(zip(*matrix))
        matrix = [[sum(a * b for a, b in zip(line, column)) % TOP for column in columns] for line in matrix]
        instant //= 2
    return dict(zip(paths, vector))


def plain_histories(inputs, many):
    """Yield all histories of so many rows of zeros with at most a 1 in the first row."""
    zeros = (0,) * len(inputs)
    yield [zeros] * many
    for k in range(len(inputs)):
        yield [zeros[:k] + (1,) + zeros[k + 1:]] + [zeros] * (many - 1)


def parted_by(net, other, history):
    one, two = net(history), other(history)
    return one[-1] != two[-1]


def least_parting(net, other):
    """Return the least number of rows of a history that parts the last rows, or None."""
    many = len(delays_of(net)) + len(delays_of(other)) + 1
    for rows in range(1, many + 1):
        if any(parted_by(net, other, history) for history in plain_histories(net.inputs, rows)):
            return rows
    return None


class LinearCase(RaisedCase):
    def check_first(self, net, other):
        """Check what first_history tells, and return the number of its rows, 0 for None."""
        expected, told = least_parting(net, other), first_history(net, other)
        if expected is None:
            self.assertIsNone(told)
            return 0
        self.assertEqual((type(told), {type(row) for row in told}), (list, {tuple}))
        self.assertEqual(len(told), expected)
        self.assertIn(told, list(plain_histories(net.inputs, expected)))
        self.assertTrue(parted_by(net, other, told))
        return expected


class NotLinearTest(LinearCase):
    def test_each_word(self):
        for word in ("mul", "less", "equal", "pick", "divide"):
            ports = movecheck.PORTS[word]
            net = net_of("x", {"s": "add", "p": word}, {"s.a": x(), "s.b": x(), **{f"p.{port}": x() for port in ports[0]}},
                         {"o": out("s")})
            for call in (lambda: first_history(net, net), lambda: state_at(net, (1,), 0),
                         lambda: told_apart(net, {}, {})):
                self.assertEqual(self.raised(NotLinear, call), {"path": ("p",)})

    def test_consts_make_no_other_word_linear(self):
        for word in ("less", "equal", "pick", "divide"):
            ports = movecheck.PORTS[word]
            for consts in itertools.product((False, True), repeat=len(ports[0])):
                net = net_of("x", {"k": "const 1", "p": word}, {
                    f"p.{port}": out("k") if const else x() for port, const in zip(ports[0], consts)})
                self.assertEqual(self.raised(NotLinear, state_at, net, (1,), 0), {"path": ("p",)})

    def test_muls_by_consts(self):
        parts = {"k": "const 3", "d": "delay 3", "m": "mul", "n": "mul", "q": "mul"}
        wires = {"d.in": out("k"), "m.a": out("k"), "m.b": x(), "n.a": x(), "n.b": out("k"), "q.a": out("k"),
                 "q.b": out("k")}
        net = net_of("x", parts, wires, {"o": out("m"), "p": out("n"), "q": out("q")})
        self.assertIsNone(first_history(net, net))
        self.assertEqual(state_at(net, (1,), 10 ** 18), {("d",): 3})
        # A delay that always has the value of a const is no const itself.
        for source in (out("d"), x(), out("m")):
            other = net_of("x", parts, {**wires, "n.b": source}, {"o": out("m"), "p": out("n"), "q": out("q")})
            self.assertEqual(self.raised(NotLinear, state_at, other, (1,), 0), {"path": ("n",)})

    def test_the_first_part_in_the_order_of_the_parts(self):
        net = net_of("x", {"z": "add", "m": "less", "a": "less"}, {
            "z.a": out("m"), "z.b": x(), "m.a": out("a"), "m.b": x(), "a.a": x(), "a.b": x()}, {"o": out("z")})
        self.assertEqual(self.raised(NotLinear, state_at, net, (1,), 0), {"path": ("m",)})

    def test_errors_in_their_order(self):
        right, odd = pipeline(["add"], [0, 0]), pipeline(["mul"], [0, 0])
        odder = net_of("x", {"d": "less", "e": "mul"}, {"d.a": x(), "d.b": x(), "e.a": x(), "e.b": x()}, {"o": out("e")})
        other_inputs = net_of("y", {"m": "mul"}, {"m.a": x("y"), "m.b": x("y")}, {"o": out("m")})
        other_outputs = net_of("x", {"m": "mul"}, {"m.a": x(), "m.b": x()}, {"p": out("m")})
        for other in (other_inputs, other_outputs):
            for net in (right, odd):
                self.assertEqual(self.raised(OtherPorts, first_history, net, other), {})
                self.assertEqual(self.raised(OtherPorts, first_history, other, net), {})
        self.assertEqual(self.raised(NotLinear, first_history, right, odd), {"path": ("paa",)})
        self.assertEqual(self.raised(NotLinear, first_history, odd, right), {"path": ("paa",)})
        self.assertEqual(self.raised(NotLinear, first_history, odd, odder), {"path": ("paa",)})
        self.assertEqual(self.raised(NotLinear, first_history, odder, odd), {"path": ("d",)})

    def test_the_same_ports_in_another_order(self):
        one = net_of("xy", {}, {}, {"o": x(), "p": x("y")})
        self.assertEqual(self.raised(OtherPorts, first_history, one, net_of("yx", {}, {}, {"o": x(), "p": x("y")})), {})
        self.assertEqual(self.raised(OtherPorts, first_history, one, net_of("xy", {}, {}, {"p": x("y"), "o": x()})), {})

    def test_random_nets(self):
        chance, judged = random.Random(101), {True: 0, False: 0}
        for _ in range(300):
            net = netcheck.random_net(chance, Net, 5, WORDS + ("mul", "mul", "mul"))
            path = first_odd_part(net)
            judged[path is None] += 1
            if path is None:
                state_at(net, (1, 2), 3)
            else:
                self.assertEqual(self.raised(NotLinear, state_at, net, (1, 2), 3), {"path": path})
                self.assertEqual(self.raised(NotLinear, state_at, net, (), 3), {"path": path})
                self.assertEqual(self.raised(NotLinear, told_apart, net, {}, {}), {"path": path})
        self.assertGreater(min(judged.values()), 30)


class FirstHistoryTest(LinearCase):
    def test_example_of_the_document(self):
        net = Net.of(library_of(COUNTER), "counter")
        total = (("sum",), "out")
        wires = (((("old",), "in"), total), ((("sum",), "a"), (("old",), "out")), ((("sum",), "b"), ((), "up")),
                 (((), "total"), total))
        nets = [Net(("up",), ("total",), ((("old",), f"delay {value}"), (("sum",), "add")), wires) for value in (0, 1)]
        self.assertEqual(len(first_history(nets[0], nets[1])), 1)
        self.assertEqual(state_at(nets[0], (3,), 10 ** 9), {("old",): 3000000000})
        self.assertEqual(self.check_first(net, net), 0)
        self.assertIsNone(first_history(other=nets[0], net=nets[0]))

    def test_zeros_or_a_one(self):
        plain = net_of("xy", {}, {}, {"o": x()})
        self.assertEqual(first_history(plain, net_of("xy", {}, {}, {"o": x("y")})) in ([(1, 0)], [(0, 1)]), True)
        late = net_of("xy", {"d": "delay 0"}, {"d.in": x()}, {"o": out("d")})
        self.assertEqual(first_history(late, plain), [(1, 0)])
        later = net_of("xy", {"d": "delay 0", "e": "delay 5"}, {"d.in": out("e"), "e.in": x()}, {"o": out("d")})
        self.assertEqual(first_history(late, later), [(0, 0), (0, 0)])
        half = net_of("xy", {"k": "const 2147483648", "m": "mul", "n": "mul"}, {
            "m.a": out("k"), "m.b": x(), "n.a": out("m"), "n.b": out("k")}, {"o": out("n")})
        self.assertIsNone(first_history(half, net_of("xy", {"k": "const 0"}, {}, {"o": out("k")})))
        self.assertEqual(first_history(net_of("xy", half_parts(), half_wires(), {"o": out("m")}),
                                       net_of("xy", {"k": "const 0"}, {}, {"o": out("k")})), [(1, 0)])

    def test_nets_without_ports(self):
        self.assertIsNone(first_history(Net((), (), (), ()), Net((), (), ((("k",), "const 1"),), ())))
        one, two = [net_of("", {"k": f"const {value}"}, {}, {"o": out("k")}) for value in (1, 2)]
        self.assertEqual(first_history(one, two), [()])

    def test_one_row_more_than_there_are_delays(self):
        for many in (1, 2, 7, 40):
            parts, wires, last = delay_line(many, out("k"), "delay 0")
            net = net_of("x", {**parts, "k": "const 7"}, wires, {"o": last})
            other = net_of("x", {"k": "const 0"}, {}, {"o": out("k")})
            self.assertEqual(first_history(net, other), [(0,)] * (many + 1))
            parts, wires, last = delay_line(many, x(), "delay 0")
            net = net_of("x", parts, wires, {"o": last})
            self.assertEqual(first_history(net, net_of("x", {"k": "const 0"}, {}, {"o": out("k")})),
                             [(1,)] + [(0,)] * many)

    def test_rings_that_agree_for_long(self):
        one = net_of("", {"pa": "delay 1", "pb": "delay 1", "pc": "delay 2"},
                     {"pa.in": out("pb"), "pb.in": out("pc"), "pc.in": out("pa")}, {"o": out("pa")})
        other = net_of("", {"qa": "delay 1", "qb": "delay 1", "qc": "delay 2", "qd": "delay 1"},
                       {"qa.in": out("qb"), "qb.in": out("qc"), "qc.in": out("qd"), "qd.in": out("qa")}, {"o": out("qa")})
        self.assertEqual(self.check_first(one, other), 6)

    def test_zero_only_after_many_steps(self):
        # The state is doubled in each instant: it becomes 0 only by the modulus.
        parts = {"k": "const 2", "d": "delay 1", "m": "mul"}
        wires = {"d.in": out("m"), "m.a": out("k"), "m.b": out("d")}
        net = net_of("", parts, wires, {"o": out("d")})
        other = net_of("", {**parts, "d": "delay 2147483649"}, wires, {"o": out("d")})
        self.assertEqual(first_history(net, other), [()])
        doubled = net_of("", {**parts, "e": "add"}, {**wires, "e.a": out("d"), "e.b": out("d")}, {"o": out("e")})
        other = net_of("", {**parts, "d": "delay 2147483649", "e": "add"}, {**wires, "e.a": out("d"), "e.b": out("d")},
                       {"o": out("e")})
        self.assertIsNone(first_history(doubled, other))

    def test_different_nets_that_answer_alike(self):
        one = net_of("xy", {"s": "add", "d": "delay 0"}, {"s.a": x(), "s.b": x("y"), "d.in": out("s")}, {"o": out("d")})
        other = net_of("xy", {"d": "delay 5", "e": "delay 4294967291", "s": "add"},
                       {"d.in": x("y"), "e.in": x(), "s.a": out("d"), "s.b": out("e")}, {"o": out("s")})
        self.assertEqual(self.check_first(one, other), 0)

    def test_random_nets(self):
        chance, rows = random.Random(102), {}
        for _ in range(500):
            net = chance.choice((random_linear(chance, chance.randrange(1, 9), WORDS, INPUTS, ("o",)),
                                 deep_linear(chance, chance.randrange(1, 9))))
            other = random_linear(chance, chance.randrange(1, 9), WORDS, INPUTS, ("o",))
            if chance.random() < 0.9:
                # The other net is this one with another part or wire.
                parts, wires = list(net.parts), list(net.wires)
                k = chance.randrange(len(parts))
                changed = {"delay 0": "delay 1", "add": "sub", "const 0": "const 3"}.get(parts[k][1], parts[k][1])
                parts[k] = (parts[k][0], changed)
                if chance.random() < 0.2:
                    wires[-1] = (wires[-1][0], chance.choice(netcheck.sources_of(net)))
                other = Net.wide(net.inputs, net.outputs, tuple(parts), tuple(wires))
            many = self.check_first(net, other)
            rows[many] = rows.get(many, 0) + 1
        self.assertTrue(all(rows.get(many, 0) > 5 for many in (0, 1, 2, 3)), rows)

    def test_no_shorter_history_of_any_rows(self):
        chance, values, found = random.Random(103), (0, 1, 2, HALF, TOP - 1), 0
        for _ in range(150):
            net = random_linear(chance, 5, WORDS, ("x",), ("o",))
            other = random_linear(chance, 5, WORDS, ("x",), ("o",))
            told = first_history(net, other)
            for many in range(1, len(told) if told else 3):
                for rows in itertools.product(values, repeat=many):
                    self.assertFalse(parted_by(net, other, [(value,) for value in rows]))
                    found += 1
        self.assertGreater(found, 200)

    def test_wide_nets(self):
        parts, wires, last = delay_line(300, x(), "delay 0")
        net = net_of("x", {**parts, "e": "delay 1"}, {**wires, "e.in": last}, {"o": out("e")})
        other = net_of("x", {**parts, "e": "delay 1", "k": "const 2", "m": "mul"},
                       {**wires, "e.in": out("m"), "m.a": out("k"), "m.b": last}, {"o": out("e")})
        self.assertEqual(first_history(net, other), [(1,)] + [(0,)] * 301)
        self.assertIsNone(first_history(net, net))


def half_parts():
    return {"k": "const 2147483648", "m": "mul"}


def half_wires():
    return {"m.a": out("k"), "m.b": x()}


class StateAtTest(LinearCase):
    def test_the_first_state(self):
        net = net_of("x", {"b": "delay 7", "a": "delay 9"}, {"b.in": out("a"), "a.in": x()})
        for instant, expected in ((0, {("b",): 7, ("a",): 9}), (1, {("b",): 9, ("a",): 5}), (2, {("b",): 5, ("a",): 5}),
                                  (10 ** 18, {("b",): 5, ("a",): 5})):
            told = state_at(net, (5,), instant)
            self.assertEqual((told, list(told)), (expected, [("b",), ("a",)]))
        told.clear()
        self.assertEqual(state_at(instant=1, net=net, row=(5,)), {("b",): 9, ("a",): 5})

    def test_nets_without_delays(self):
        for instant in (0, 1, 10 ** 18):
            self.assertEqual(state_at(Net((), (), (), ()), (), instant), {})
            self.assertEqual(state_at(pipeline(["add"], [0, 0]), (3,), instant), {})

    def test_rows(self):
        net = net_of("xy", {"d": "delay 1"}, {"d.in": x()})
        for row in ((), (1,), (1, 2, 3), (None, None, None)):
            self.assertEqual(self.raised(WrongCount, state_at, net, row, 0), {"count": 2})
        for value in (-1, TOP, True, False, None, "1", 1.0, [1], (1,)):
            self.assertEqual(self.raised(BadValue, state_at, net, (value, value), 0), {"name": "x"})
            self.assertEqual(self.raised(BadValue, state_at, net, (1, value), 10 ** 18), {"name": "y"})
        self.assertEqual(state_at(net, (TOP - 1, 0), 1), {("d",): TOP - 1})

    def test_instants_one_by_one(self):
        chance = random.Random(104)
        for _ in range(40):
            net = random_linear(chance, chance.randrange(1, 9))
            row = tuple(chance.choice((0, 1, 5, HALF, TOP - 1)) for _ in net.inputs)
            state = first_state(net)
            for instant in range(8 * len(net) + 5):
                self.assertEqual(state_at(net, row, instant), state)
                state = state_after(net, state, row)

    def test_very_late_instants(self):
        chance = random.Random(105)
        for _ in range(60):
            net = random_linear(chance, chance.randrange(1, 12))
            row = tuple(chance.randrange(TOP) for _ in net.inputs)
            for instant in (10 ** 18, 10 ** 18 - 1, chance.randrange(10 ** 18), chance.randrange(1000), 2 ** 59, 2 ** 59 - 1):
                told = state_at(net, row, instant)
                self.assertEqual(told, power_of(net, row, instant))
                self.assertEqual(list(told), delays_of(net))

    def test_counting(self):
        net = net_of("x", {"d": "delay 1", "s": "sub"}, {"d.in": out("s"), "s.a": out("d"), "s.b": x()}, {"o": out("d")})
        self.assertEqual(state_at(net, (1,), 10 ** 18), {("d",): (1 - 10 ** 18) % TOP})
        net = net_of("", {"k": "const 3", "d": "delay 5", "m": "mul"}, {"d.in": out("m"), "m.a": out("d"), "m.b": out("k")})
        self.assertEqual(state_at(net, (), 10 ** 18), {("d",): 5 * pow(3, 10 ** 18, TOP) % TOP})

    def test_large_nets(self):
        # A ring of delays with a sum in it, so that all delays come to depend on each other.
        parts, wires, last = delay_line(46, out("s"))
        net = net_of("x", {**parts, "s": "add", "t": "sub"}, {
            **wires, "s.a": last, "s.b": out("t"), "t.a": out(long_name(20)), "t.b": x()}, {"o": last})
        self.assertEqual(state_at(net, (7,), 10 ** 18), power_of(net, (7,), 10 ** 18))
        parts, wires, last = delay_line(150, out("s"))
        net = net_of("x", {**parts, "s": "add"}, {**wires, "s.a": last, "s.b": out(long_name(70))}, {"o": last})
        told = state_at(net, (7,), 10 ** 18)
        self.assertEqual(len(told), 150)
        parts, wires, last = delay_line(2000, x())
        net = net_of("x", parts, wires, {"o": last})
        self.assertEqual(list(state_at(net, (7,), 3).values()), [7] * 3 + [1] * 1997)

    def test_what_is_given_stays(self):
        net, row = net_of("x", {"d": "delay 1"}, {"d.in": x()}), (3,)
        state_at(net, row, 5)
        self.assertEqual((row, net.parts), ((3,), ((("d",), "delay 1"),)))


class ToldApartTest(LinearCase):
    def apart(self, net, state, second):
        """Return the first instant that parts two states, by running the net from them."""
        zeros = [(0,) * len(net.inputs)] * max(1, len(state))
        one, two = with_state(net, state)(zeros), with_state(net, second)(zeros)
        return next((k for k in range(len(state)) if one[k] != two[k]), None)

    def test_a_line(self):
        parts, wires, last = delay_line(20, x())
        net = net_of("x", parts, wires, {"o": last})
        state = first_state(net)
        for k, path in enumerate(reversed(list(state))):
            self.assertEqual(told_apart(net, state, {**state, path: 5}), k)
            self.assertEqual(told_apart(second=state, state={**state, path: 5}, net=net), k)
        self.assertIsNone(told_apart(net, state, dict(reversed(state.items()))))

    def test_what_no_output_shows(self):
        net = net_of("x", {"k": "const 65536", "d": "delay 0", "m": "mul", "n": "mul"}, {
            "d.in": out("m"), "m.a": out("d"), "m.b": out("k"), "n.a": out("m"), "n.b": out("k")},
            {"o": out("n"), "p": out("m")})
        self.assertEqual(told_apart(net, {("d",): 1}, {("d",): 2}), 0)
        self.assertIsNone(told_apart(net, {("d",): 1}, {("d",): 65537}))
        self.assertIsNone(told_apart(net_of("x", {"d": "delay 0"}, {"d.in": x()}), {("d",): 1}, {("d",): 2}))
        self.assertIsNone(told_apart(Net((), (), (), ()), {}, {}))

    def test_wrong_states(self):
        net = net_of("x", {"d": "delay 0", "e": "delay 1", "s": "add"},
                     {"d.in": x(), "e.in": x(), "s.a": out("d"), "s.b": out("e")}, {"o": out("s")})
        right = {("d",): 0, ("e",): TOP - 1}
        wrong = [({("d",): 0}, [("e",)]), ({}, [("d",), ("e",)]), ({**right, ("s",): 0}, [("s",)]),
                 ({**right, "d": 0}, ["d"]), ({**right, (): 0}, [()]), ({("e",): 1, ("z",): 1}, [("d",), ("z",)])]
        wrong += [({**right, ("d",): value}, [("d",)]) for value in (-1, TOP, True, None, "0", (0,), [0], 1.5)]
        for state, paths in wrong:
            self.assertIn(self.raised(BadState, told_apart, net, state, right)["path"], paths)
            self.assertIn(self.raised(BadState, told_apart, net, right, state)["path"], paths)
            # The first state comes first.
            self.assertIn(self.raised(BadState, told_apart, net, state, {("y",): 0})["path"], paths)
        self.assertEqual(right, {("d",): 0, ("e",): TOP - 1})

    def test_random_nets(self):
        chance, found = random.Random(106), {}
        for _ in range(600):
            net = chance.choice((random_linear(chance, chance.randrange(1, 9), WORDS, INPUTS, ("o",)),
                                 deep_linear(chance, chance.randrange(1, 9))))
            state = {path: chance.randrange(4) for path in delays_of(net)}
            second = {path: value + HALF * chance.randrange(2) if chance.random() < 0.6 else chance.randrange(4)
                      for path, value in state.items()}
            told = told_apart(net, state, second)
            self.assertEqual(told, self.apart(net, state, second))
            found[told] = found.get(told, 0) + 1
            if told is None:
                # No rows part them later, either.
                history = [tuple(chance.randrange(TOP) for _ in net.inputs) for _ in range(12)]
                self.assertEqual(with_state(net, state)(history), with_state(net, second)(history))
        self.assertTrue(all(found.get(told, 0) > 5 for told in (None, 0, 1, 2)), found)

    def test_functions_asked_in_turns(self):
        nets = [net_of("x", {"d": f"delay {k}", "s": "add"}, {"d.in": out("s"), "s.a": out("d"), "s.b": x()},
                       {"o": out("d")}) for k in range(3)]
        for one, other in itertools.permutations(range(3), 2):
            self.assertEqual(state_at(nets[one], (1,), 10 ** 18), {("d",): (one + 10 ** 18) % TOP})
            self.assertEqual(first_history(nets[one], nets[other]), [(0,)])
            self.assertEqual(told_apart(nets[other], {("d",): 1}, {("d",): 2}), 0)


class OddTest(LinearCase):
    def test_odd_values_in_rows(self):
        net = net_of("x", {"d": "delay 1"}, {"d.in": x()})
        for value in ODD_VALUES:
            if type(value) is not int or not 0 <= value < TOP:
                self.assertEqual(self.raised(BadValue, state_at, net, (value,), 4), {"name": "x"})


if __name__ == "__main__":
    unittest.main()
