"""Sources that are alike for all readings: points 21 to 23."""

import itertools
import random
import unittest

import netcheck
from netkit import RaisedCase, net_of, out, x
from samples import COUNTER, ODD_VALUES, deep_value, library_of, variants
from stepblocks.errors import OtherPorts, UnknownPort
from stepblocks.nets import Net
from stepblocks.readings import are_alike, closed_pairs, is_closed, parting, walk_from

WORDS = ("const 0", "const 1", "add", "add", "sub", "divide", "delay 0", "delay 0", "delay 1")


def ring(many, first="delay 1", other="delay 0", name="d"):
    """Return a net with one ring of so many delays, of which the first one differs."""
    parts = {f"{name}{chr(97 + k)}": other if k else first for k in range(many)}
    names = list(parts)
    return net_of("", parts, {f"{names[k]}.in": out(names[(k + 1) % many]) for k in range(many)})


class ReadingCase(RaisedCase):
    def check(self, net, source, other, second, alike):
        """Check all that is told of two sources."""
        self.assertIs(are_alike(net, source, other, second), alike)
        pairs, told = closed_pairs(net, source, other, second), parting(net, source, other, second)
        self.assertIs(is_closed(net, other, [(source, second)]),
                      netcheck.judge_closed(net, other, [(source, second)]))
        if alike:
            self.assertIs(told, None)
            self.assertIn((source, second), pairs)
            self.assertTrue(netcheck.judge_closed(net, other, pairs))
            self.assertIs(is_closed(net, other, pairs), True)
            return pairs
        self.assertIs(pairs, None)
        self.assertEqual((type(told), type(told[0]), type(told[1])), (tuple, int, list))
        instant, route = told
        self.assertEqual(instant, netcheck.first_parting(net, source, other, second, {}, {}))
        one, two = netcheck.walk(net, source, instant, route), netcheck.walk(other, second, instant, route)
        self.assertEqual(walk_from(net, source, instant, route), one)
        self.assertEqual(walk_from(other, second, instant, route), two)
        self.assertEqual(one[0], two[0])
        self.assertNotEqual(one[1], two[1])
        return told


class FormsTest(ReadingCase):
    def test_inputs(self):
        net = net_of("xy", {}, {})
        self.assertEqual(self.check(net, x(), net, x(), True), [(x(), x())])
        self.assertEqual(self.check(net, x("y"), Net(("x", "y"), (), (), ()), x("y"), True), [(x("y"), x("y"))])
        self.assertEqual(self.check(net, x(), net, x("y"), False), (0, []))

    def test_consts_and_inputs(self):
        net = net_of("x", {"a": "const 1", "b": "const 1", "c": "const 2"}, {})
        self.check(net, out("a"), net, out("b"), True)
        self.check(net, out("a"), net, out("a"), True)
        self.assertEqual(self.check(net, out("a"), net, out("c"), False), (0, []))
        self.assertEqual(self.check(net, out("a"), net, x(), False), (0, []))
        self.assertEqual(self.check(net, x(), net, out("a"), False), (0, []))

    def test_parts_with_the_same_word(self):
        net = net_of("xy", {"p": "add", "q": "add", "r": "add", "s": "sub"}, {
            "p.a": x(), "p.b": x("y"), "q.a": x(), "q.b": x("y"), "r.a": x("y"), "r.b": x(), "s.a": x(), "s.b": x("y")})
        pairs = self.check(net, out("p"), net, out("q"), True)
        self.assertEqual(sorted(pairs), sorted([(out("p"), out("q")), (x(), x()), (x("y"), x("y"))]))
        # An add whose inputs change places is another one for some reading.
        self.assertIn(self.check(net, out("p"), net, out("r"), False), ((0, ["a"]), (0, ["b"])))
        self.assertEqual(self.check(net, out("p"), net, out("s"), False), (0, []))
        self.assertEqual(self.check(net, out("p"), net, x(), False), (0, []))

    def test_the_input_that_differs(self):
        net = net_of("xy", {"p": "pick", "q": "pick", "r": "pick", "s": "pick"}, {
            **{f"p.{name}": x() for name in "cab"},
            "q.c": x("y"), "q.a": x(), "q.b": x(), "r.c": x(), "r.a": x("y"), "r.b": x(),
            "s.c": x(), "s.a": x(), "s.b": x("y")})
        for name, route in (("q", ["c"]), ("r", ["a"]), ("s", ["b"])):
            self.assertEqual(self.check(net, out("p"), net, out(name), False), (0, route))
            self.assertEqual(self.check(net, out(name), net, out("p"), False), (0, route))

    def test_outputs_of_one_part(self):
        net = net_of("x", {"p": "divide", "q": "divide"}, {f"{p}.{name}": x() for p in "pq" for name in "ab"})
        self.check(net, out("p", "rest"), net, out("q", "rest"), True)
        self.check(net, out("p", "quotient"), net, out("q", "quotient"), True)
        self.assertEqual(self.check(net, out("p", "rest"), net, out("q", "quotient"), False), (0, []))
        self.assertEqual(self.check(net, out("p", "rest"), net, out("p", "quotient"), False), (0, []))

    def test_delays(self):
        net = net_of("x", {"p": "delay 1", "q": "delay 1", "r": "delay 2", "s": "delay 1", "t": "delay 1"}, {
            "p.in": x(), "q.in": x(), "r.in": x(), "s.in": out("p"), "t.in": out("r")})
        self.assertEqual(sorted(self.check(net, out("p"), net, out("q"), True)),
                         sorted([(out("p"), out("q")), (x(), x())]))
        self.assertEqual(self.check(net, out("p"), net, out("r"), False), (0, []))
        self.assertEqual(self.check(net, out("p"), net, out("s"), False), (1, []))
        self.assertEqual(self.check(net, out("s"), net, out("t"), False), (1, []))
        self.assertEqual(self.check(net, out("p"), net, x(), False), (0, []))

    def test_const_and_delay(self):
        net = net_of("x", {"k": "const 1", "p": "delay 1", "q": "delay 1", "r": "delay 1", "s": "delay 2", "t": "delay 1",
                           "u": "delay 1"},
                     {"p.in": out("k"), "q.in": out("q"), "r.in": x(), "s.in": out("k"), "t.in": out("s"),
                      "u.in": out("p")})
        self.assertEqual(sorted(self.check(net, out("k"), net, out("p"), True)),
                         sorted([(out("k"), out("p")), (out("k"), out("k"))]))
        self.assertEqual(sorted(self.check(net, out("p"), net, out("k"), True)),
                         sorted([(out("p"), out("k")), (out("k"), out("k"))]))
        self.assertEqual(self.check(net, out("k"), net, out("q"), True), [(out("k"), out("q"))])
        self.assertEqual(self.check(net, out("q"), net, out("k"), True), [(out("q"), out("k"))])
        self.check(net, out("p"), net, out("q"), True)
        self.check(net, out("u"), net, out("q"), True)
        self.assertEqual(self.check(net, out("k"), net, out("r"), False), (1, []))
        self.assertEqual(self.check(net, out("r"), net, out("k"), False), (1, []))
        self.assertEqual(self.check(net, out("k"), net, out("s"), False), (0, []))
        self.assertEqual(self.check(net, out("t"), net, out("k"), False), (1, []))

    def test_parts_that_only_compute_the_same(self):
        net = net_of("x", {"k": "const 0", "p": "add", "two": "const 2", "four": "const 4", "q": "add"},
                     {"p.a": x(), "p.b": out("k"), "q.a": out("two"), "q.b": out("two")})
        self.assertEqual(self.check(net, x(), net, out("p"), False), (0, []))
        self.assertEqual(self.check(net, out("q"), net, out("four"), False), (0, []))

    def test_example_of_the_document(self):
        net = net_of("x", {"p": "delay 1", "q": "delay 1"}, {"p.in": x(), "q.in": out("p")})
        self.assertEqual(self.check(net, out("p"), net, out("q"), False), (1, []))

    def test_delays_may_lead_to_different_instants(self):
        net = net_of("x", {"d": "delay 1", "e": "delay 1", "p": "add", "q": "add", "f": "delay 1"}, {
            "d.in": x(), "e.in": out("d"), "p.a": out("d"), "p.b": out("d"), "q.a": out("e"), "q.b": out("d"),
            "f.in": out("p")})
        self.assertEqual(self.check(net, out("p"), net, out("q"), False), (1, ["a"]))
        self.assertEqual(self.check(net, out("f"), net, out("q"), False), (0, []))

    def test_two_rings(self):
        for one, other in itertools.product(range(1, 7), repeat=2):
            net, second = ring(one), ring(other)
            told = self.check(net, out("da"), second, out("da"), one == other)
            if one != other:
                self.assertEqual(told, (min(one, other), []))
            alike = [ring(one, "delay 0"), ring(other, "delay 0")]
            self.check(alike[0], out("da"), alike[1], out("da"), True)

    def test_rings_that_agree_for_long(self):
        one = net_of("", {"pa": "delay 1", "pb": "delay 1", "pc": "delay 2"},
                     {"pa.in": out("pb"), "pb.in": out("pc"), "pc.in": out("pa")})
        other = net_of("", {"qa": "delay 1", "qb": "delay 1", "qc": "delay 2", "qd": "delay 1"},
                       {"qa.in": out("qb"), "qb.in": out("qc"), "qc.in": out("qd"), "qd.in": out("qa")})
        self.assertEqual(self.check(one, out("pa"), other, out("qa"), False), (5, []))
        self.assertEqual(self.check(other, out("qa"), one, out("pa"), False), (5, []))

    def test_long_lines_of_delays(self):
        parts = {f"d{chr(97 + k)}": "delay 1" for k in range(24)}
        names = list(parts)
        wires = {f"{names[k]}.in": out(names[k + 1]) for k in range(23)}
        net = net_of("x", {**parts, "k": "const 1"}, {**wires, f"{names[23]}.in": x()})
        self.assertEqual(self.check(net, out("da"), net, out("k"), False), (24, []))
        self.assertEqual(self.check(net, out("db"), net, out("da"), False), (23, []))
        steady = net_of("x", {**parts, "k": "const 1"}, {**wires, f"{names[23]}.in": out("k")})
        self.check(steady, out("da"), steady, out("k"), True)
        self.assertEqual(self.check(net, out("da"), steady, out("da"), False), (24, []))

    def test_deep_routes(self):
        for many, route in ((3, ["a"] * 3), (40, ["a"] * 40)):
            nets = []
            for given in ("x", "y"):
                parts = {f"p{chr(97 + k // 26)}{chr(97 + k % 26)}": "add" for k in range(many)}
                names, wires = list(parts), {}
                for k in range(many):
                    wires[f"{names[k]}.a"] = out(names[k + 1]) if k + 1 < many else x(given)
                    wires[f"{names[k]}.b"] = x()
                nets.append(net_of("xy", parts, wires))
            self.assertEqual(self.check(nets[0], out("paa"), nets[1], out("paa"), False), (0, route))

    def test_very_wide_nets(self):
        parts, wires, source = {}, {}, x()
        for k in range(2000):
            name = "".join("abcdefghij"[int(digit)] for digit in str(k).zfill(4))
            parts[name] = "sub"
            wires.update({f"{name}.a": source, f"{name}.b": source})
            source = out(name)
        net = net_of("xy", parts, wires)
        other = net_of("xy", parts, {**wires, "aaaa.b": x("y")})
        self.assertIs(are_alike(net, source, net, source), True)
        self.assertIs(are_alike(net, source, other, source), False)
        instant, route = parting(net, source, other, source)
        self.assertEqual((instant, len(route), route[-1]), (0, 2000, "b"))
        self.assertEqual(walk_from(net, source, 0, route)[1], ("input", "x", 0))
        self.assertEqual(walk_from(other, source, 0, route)[1], ("input", "y", 0))


class ErrorsTest(ReadingCase):
    def calls(self, net, source, other, second):
        return [lambda: call(net, source, other, second) for call in (are_alike, closed_pairs, parting)]

    def test_other_ports(self):
        nets = [net_of(inputs, {"k": "const 1"}, {}) for inputs in ("x", "xy", "yx", "y", "")]
        for one, two in itertools.permutations(nets, 2):
            for source in (out("k"), "nothing"):
                for call in (are_alike, closed_pairs, parting):
                    self.assertEqual(self.raised(OtherPorts, call, one, source, two, None), {})
            for value in ([], [(out("k"), out("k"))], None):
                self.assertEqual(self.raised(OtherPorts, is_closed, one, two, value), {})

    def test_other_outputs_do_not_matter(self):
        one, two = Net(("x",), ("o",), (), (((((), "o"), x())),)), Net(("x",), (), (), ())
        self.assertIs(are_alike(one, x(), two, x()), True)
        self.assertIs(is_closed(one, two, [(x(), x())]), True)

    def test_unknown_ports(self):
        net = Net(("x",), ("o",), ((("d",), "divide"),), ((out("d", "a"), x()), (out("d", "b"), x()), (((), "o"), x())))
        wrong = [*ODD_VALUES, ((), "o"), ((), "y"), out("d"), out("d", "a"), ("d", "rest"), (["d"], "rest"), [(), "x"],
                 ["d", "rest"], deep_value(50), "x", x, net, (("d",), "rest", 1), ((("d",),), "rest")]
        for value in wrong:
            if type(value) is tuple and value == x():
                continue
            for call in (are_alike, closed_pairs, parting):
                for second in (x(), None, "other"):
                    error = self.raised(UnknownPort, call, net, value, net, second)
                    self.assertEqual(list(error), ["name"])
                    self.assertIs(error["name"], value)
                self.assertIs(self.raised(UnknownPort, call, net, x(), net, value)["name"], value)
                self.assertIs(self.raised(UnknownPort, call, net, out("d", "rest"), net, value)["name"], value)
            self.assertIs(self.raised(UnknownPort, walk_from, net, value, 3, ["a"])["name"], value)
        self.assertIs(are_alike(net, out("d", "rest"), net, out("d", "rest")), True)

    def test_sources_of_the_other_net(self):
        one, two = net_of("x", {"p": "const 1"}, {}), net_of("x", {"q": "const 1"}, {})
        self.assertEqual(self.raised(UnknownPort, are_alike, one, out("q"), two, out("p")), {"name": out("q")})
        self.assertEqual(self.raised(UnknownPort, are_alike, one, out("p"), two, out("p")), {"name": out("p")})
        self.assertIs(are_alike(one, out("p"), two, out("q")), True)

    def test_arguments_by_name(self):
        net = net_of("x", {"k": "const 1"}, {})
        named = {"net": net, "source": out("k"), "other": net, "second": x()}
        self.assertIs(are_alike(**named), False)
        self.assertIs(closed_pairs(**named), None)
        self.assertEqual(parting(**named), (0, []))
        self.assertIs(is_closed(net=net, other=net, value=[]), True)
        self.assertEqual(walk_from(net=net, source=x(), instant=4, route=[]), ([], ("input", "x", 4)))


class ClosedTest(ReadingCase):
    def net(self):
        return net_of("xy", {"k": "const 1", "d": "delay 1", "e": "delay 1", "s": "add", "t": "add", "q": "divide"}, {
            "d.in": out("k"), "e.in": out("e"), "s.a": x(), "s.b": out("d"), "t.a": x(), "t.b": out("k"),
            "q.a": out("s"), "q.b": out("t")})

    def test_small_ones(self):
        net = self.net()
        for value, expected in (
                ([], True), ([(x(), x())], True), ([(x(), x()), (x(), x())], True), ([(x(), x("y"))], False),
                ([(out("k"), out("k"))], True), ([(out("k"), out("e"))], True), ([(out("k"), out("d"))], False),
                ([(out("k"), out("d")), (out("k"), out("k"))], True), ([(out("d"), out("k"))], False),
                ([(out("d"), out("k")), (out("k"), out("k"))], True), ([(out("e"), out("k"))], True),
                ([(out("d"), out("e"))], False), ([(out("d"), out("e")), (out("k"), out("e"))], True),
                ([(out("d"), out("e")), (out("e"), out("k"))], False), ([(out("s"), out("t"))], False),
                ([(out("s"), out("t")), (x(), x())], False), ([(out("s"), out("t")), (out("d"), out("k"))], False),
                ([(out("s"), out("t")), (x(), x()), (out("d"), out("k")), (out("k"), out("k"))], True),
                ([(out("s"), out("t")), (x(), x()), (out("k"), out("d")), (out("k"), out("k"))], False),
                ([(out("q", "rest"), out("q", "rest")), (out("s"), out("s")), (out("t"), out("t")), (x(), x()),
                  (out("d"), out("d")), (out("k"), out("k"))], True),
                ([(out("q", "rest"), out("q", "quotient")), (out("s"), out("s")), (out("t"), out("t")), (x(), x()),
                  (out("d"), out("d")), (out("k"), out("k"))], False)):
            self.assertIs(is_closed(net, net, value), expected, value)
            self.assertIs(netcheck.judge_closed(net, net, value), expected, value)

    def test_changed_values(self):
        net, judged = self.net(), [0, 0]
        for source, second in ((out("s"), out("t")), (out("d"), out("e")), (out("q", "rest"), out("q", "rest"))):
            pairs = closed_pairs(net, source, net, second)
            for value in variants(pairs):
                expected = netcheck.judge_closed(net, net, value)
                judged[expected] += 1
                self.assertIs(is_closed(net, net, value), expected, value)
        self.assertGreater(judged[0], 500)
        self.assertGreater(judged[1], 5)

    def test_odd_values(self):
        net = self.net()
        for value in (*ODD_VALUES, ((x(), x()),), deep_value(50), {(x(), x()): 1}, net):
            self.assertIs(is_closed(net, net, value), value == [] and type(value) is list)
            self.assertIs(is_closed(net, net, [value]), value == (x(), x()))
            self.assertIs(is_closed(net, net, [(value, value)]), value == x())
            self.assertIs(is_closed(net, net, [(x(), x()), (x(), value)]), value == x())

    def test_pairs_of_one_net_each(self):
        one, two = net_of("x", {"p": "const 1"}, {}), net_of("x", {"q": "const 1"}, {})
        self.assertIs(is_closed(one, two, [(out("p"), out("q"))]), True)
        self.assertIs(is_closed(two, one, [(out("p"), out("q"))]), False)
        self.assertIs(is_closed(two, one, [(out("q"), out("p"))]), True)

    def test_all_short_lists(self):
        net = net_of("x", {"k": "const 1", "d": "delay 1", "s": "add"},
                     {"d.in": out("k"), "s.a": x(), "s.b": out("d")})
        sources = netcheck.sources_of(net)
        pairs = list(itertools.product(sources, repeat=2))
        for many in range(5):
            for value in itertools.combinations(pairs, many):
                self.assertIs(is_closed(net, net, list(value)), netcheck.judge_closed(net, net, list(value)), value)

    def test_told_lists_are_new(self):
        net = self.net()
        told = closed_pairs(net, out("s"), net, out("t"))
        self.assertIsInstance(told, list)
        told.clear()
        self.assertEqual(len(closed_pairs(net, out("s"), net, out("t"))), 4)
        told = parting(net, out("s"), net, x())
        told[1].append("x")
        self.assertEqual(parting(net, out("s"), net, x()), (0, []))


class WalkTest(ReadingCase):
    def net(self):
        return net_of("x", {"k": "const 4", "d": "delay 7", "e": "delay 8", "s": "add", "q": "divide", "p": "pick",
                            "f": "delay 9"}, {
            "d.in": x(), "e.in": out("s"), "s.a": out("d"), "s.b": out("k"), "q.a": out("e"), "q.b": out("s"),
            "p.c": out("q", "rest"), "p.a": x(), "p.b": out("f"), "f.in": out("f")})

    def test_ends(self):
        net = self.net()
        for source, instant, route, expected in (
                (x(), 0, [], ([], ("input", "x", 0))), (x(), 1000, [], ([], ("input", "x", 1000))),
                (out("k"), 5, [], ([], ("value", 4))), (out("d"), 0, [], ([], ("value", 7))),
                (out("d"), 1, [], ([], ("input", "x", 0))), (out("d"), 6, [], ([], ("input", "x", 5))),
                (out("s"), 3, [], ([], ("add", "out"))), (out("e"), 3, [], ([], ("add", "out"))),
                (out("e"), 0, [], ([], ("value", 8))), (out("f"), 1000, [], ([], ("value", 9))),
                (out("q", "quotient"), 2, [], ([], ("divide", "quotient"))),
                (out("s"), 3, ["a"], ([("add", "out")], ("input", "x", 2))),
                (out("s"), 0, ["a"], ([("add", "out")], ("value", 7))),
                (out("s"), 0, ["b"], ([("add", "out")], ("value", 4))),
                (out("e"), 1, ["a"], ([("add", "out")], ("value", 7))),
                (out("p"), 2, ["c", "a", "a"],
                 ([("pick", "out"), ("divide", "rest"), ("add", "out")], ("input", "x", 0))),
                (out("p"), 1, ["c", "a"], ([("pick", "out"), ("divide", "rest")], ("add", "out"))),
                (out("p"), 0, ["c", "a"], ([("pick", "out"), ("divide", "rest")], ("value", 8))),
                (out("p"), 9, ["b"], ([("pick", "out")], ("value", 9)))):
            self.assertEqual(walk_from(net, source, instant, route), expected)
            self.assertEqual(netcheck.walk(net, source, instant, route), expected)

    def test_walks_that_are_not_possible(self):
        net = self.net()
        for source, instant, route in (
                (x(), 0, ["a"]), (out("k"), 0, ["out"]), (out("d"), 0, ["in"]), (out("d"), 3, ["in"]),
                (out("s"), 0, ["c"]), (out("s"), 0, [""]), (out("s"), 0, ["out"]), (out("s"), 3, ["a", "a"]),
                (out("s"), 0, ["b", "a"]), (out("e"), 0, ["a"]), (out("q", "rest"), 0, ["c"]),
                (out("q", "rest"), 0, ["quotient"]), (out("f"), 1000, ["in"])):
            self.assertIs(walk_from(net, source, instant, route), None)
            self.assertIs(netcheck.walk(net, source, instant, route), None)

    def test_kinds_of_values(self):
        net, route = self.net(), ["c", "a"]
        told = walk_from(net, out("p"), 1, route)
        self.assertEqual((type(told), type(told[0]), type(told[0][0]), type(told[1])), (tuple, list, tuple, tuple))
        self.assertEqual(route, ["c", "a"])
        told[0].clear()
        self.assertEqual(len(walk_from(net, out("p"), 1, route)[0]), 2)

    def test_all_short_routes(self):
        net = self.net()
        for source in netcheck.sources_of(net):
            for instant in range(4):
                for many in range(4):
                    for route in itertools.product(("a", "b", "c", "in", "out"), repeat=many):
                        self.assertEqual(walk_from(net, source, instant, list(route)),
                                         netcheck.walk(net, source, instant, list(route)))


class RandomTest(ReadingCase):
    def test_against_values_that_only_tell_how_they_are_computed(self):
        chance, judged = random.Random(51), {True: 0, False: 0}
        for _ in range(250):
            words = chance.choice((WORDS, ("delay 0", "delay 0", "delay 1", "const 0"), ("add", "add", "delay 0")))
            net = netcheck.random_net(chance, Net, chance.randrange(1, 7), words)
            other = chance.choice((net, netcheck.random_net(chance, Net, chance.randrange(1, 7), words)))
            known, other_known = {}, {}
            for source in netcheck.sources_of(net):
                for second in netcheck.sources_of(other):
                    alike = netcheck.first_parting(net, source, other, second, known, other_known) is None
                    told = self.check(net, source, other, second, alike)
                    judged[alike and source != second] += 1
        self.assertGreater(min(judged.values()), 300)

    def changed(self, chance, net):
        """Return a net in which one part has another text, or one wire another source."""
        parts, wires = list(net.parts), list(net.wires)
        if chance.randrange(2):
            k = chance.randrange(len(parts))
            path, text = parts[k]
            parts[k] = (path, {"delay 0": "delay 1", "add": "sub", "sub": "mul"}.get(text, text))
        else:
            k = chance.randrange(len(wires))
            wires[k] = (wires[k][0], chance.choice(netcheck.sources_of(net)))
        four = (net.inputs, net.outputs, tuple(parts), tuple(wires))
        return Net(*four) if netcheck.judge_net(*four) else net

    def test_nets_that_differ_at_one_place(self):
        chance, late, deep, both = random.Random(53), 0, 0, 0
        for _ in range(400):
            net = netcheck.random_net(chance, Net, 10, ("add", "sub", "delay 0", "delay 0", "delay 0"))
            other = self.changed(chance, net)
            known, other_known = {}, {}
            for source in netcheck.sources_of(net):
                alike = netcheck.first_parting(net, source, other, source, known, other_known) is None
                told = self.check(net, source, other, source, alike)
                if not alike:
                    late += told[0] > 1
                    deep += len(told[1]) > 1
                    both += told[0] > 1 and len(told[1]) > 1
        self.assertGreater(min(late, deep, both), 20, (late, deep, both))

    def test_alike_sources_are_equal_for_the_primitives_themselves(self):
        chance, found = random.Random(52), 0
        for _ in range(150):
            net = netcheck.random_net(chance, Net, chance.randrange(2, 8), WORDS)
            sources = netcheck.sources_of(net)
            for source, second in itertools.combinations(sources, 2):
                if are_alike(net, source, net, second):
                    both = Net(net.inputs, ("o", "p"), net.parts, net.wires[:-2] + (
                        (((), "o"), source), (((), "p"), second)))
                    found += 1
                    history = [tuple(chance.randrange(4) for _ in net.inputs) for _ in range(8)]
                    self.assertTrue(all(one == two for one, two in both(history)))
        self.assertGreater(found, 100)

    def test_nets_of_diagrams(self):
        library = library_of(COUNTER)
        net, other = Net.of(library, "counter"), Net.of(library_of(COUNTER.replace("old", "new")), "counter")
        self.check(net, out("sum"), other, out("sum"), True)
        self.check(net, out("old"), other, out("new"), True)
        third = Net.of(library_of(COUNTER.replace("sum.a <- old.out", "sum.a <- sum.out").replace(
            "sum.a <- sum.out", "sum.a <- up")), "counter")
        self.assertEqual(self.check(net, out("sum"), third, out("sum"), False), (0, ["a"]))


if __name__ == "__main__":
    unittest.main()
