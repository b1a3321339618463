"""Alike parts, needed parts and least nets: point 24."""

import itertools
import random
import unittest

import movecheck
import netcheck
from netkit import delay_line, long_name, net_of, out, x
from samples import COUNTER, library_of
from stepblocks.least import least_net, needed_parts, part_classes
from stepblocks.nets import Net

WORDS = ("const 0", "const 1", "add", "add", "sub", "divide", "delay 0", "delay 0", "delay 1")


class LeastCase(unittest.TestCase):
    def check(self, net):
        """Check all that is told of a net, and return its least net."""
        self.assertEqual(part_classes(net), movecheck.classes(net))
        self.assertEqual(needed_parts(net), movecheck.needed(net))
        least = least_net(net)
        self.assertIsInstance(least, Net)
        movecheck.judge_least(net, least)
        return least

    def classes(self, net):
        return ["".join(path[0] for path in group) for group in part_classes(net)]

    def needed(self, net):
        return "".join(path[0] for path in needed_parts(net))


class ClassesTest(LeastCase):
    def test_nothing_at_all(self):
        for net in (Net((), (), (), ()), Net(("x",), ("o",), (), ((((), "o"), ((), "x")),))):
            self.assertEqual((part_classes(net), needed_parts(net)), ([], []))
            self.assertTrue(least_net(net) == net)

    def test_example_of_the_document(self):
        net = net_of("", {"k": "const 2", "p": "delay 2", "q": "delay 3"}, {"p.in": out("k"), "q.in": out("q")},
                     {"o": out("p")})
        self.assertEqual(part_classes(net), [[("k",), ("p",)], [("q",)]])
        self.assertEqual(needed_parts(net), [("p",)])
        self.assertEqual([text for _, text in self.check(net).parts], ["const 2"])

    def test_classes_are_ordered_by_their_first_parts(self):
        net = net_of("xy", {"e": "delay 1", "a": "add", "d": "delay 1", "b": "add", "c": "sub"}, {
            "e.in": x("y"), "a.a": x(), "a.b": x(), "d.in": x("y"), "b.a": x(), "b.b": x(), "c.a": x(), "c.b": x()})
        self.assertEqual(self.classes(net), ["ed", "ab", "c"])
        self.assertEqual(part_classes(net), [[("e",), ("d",)], [("a",), ("b",)], [("c",)]])

    def test_inputs_change_places(self):
        net = net_of("xy", {"a": "add", "b": "add"}, {"a.a": x(), "a.b": x("y"), "b.a": x("y"), "b.b": x()})
        self.assertEqual(self.classes(net), ["a", "b"])

    def test_parts_with_two_outputs(self):
        net = net_of("xy", {"a": "divide", "b": "divide", "c": "divide", "d": "sub"}, {
            "a.a": x(), "a.b": x("y"), "b.a": x(), "b.b": x("y"), "c.a": x("y"), "c.b": x(), "d.a": x(), "d.b": x("y")},
            {"o": out("a", "quotient"), "p": out("b", "rest"), "q": out("c", "rest")})
        self.assertEqual(self.classes(net), ["ab", "c", "d"])
        self.assertEqual(len(self.check(net)), 2)

    def test_consts_and_steady_delays(self):
        net = net_of("x", {"k": "const 1", "p": "delay 1", "q": "delay 1", "r": "delay 1", "s": "delay 2", "t": "delay 1",
                           "u": "delay 1", "v": "const 1", "w": "const 2"},
                     {"p.in": out("k"), "q.in": out("q"), "r.in": x(), "s.in": out("k"), "t.in": out("s"),
                      "u.in": out("p")}, {"o": out("q"), "p": out("u"), "q": out("t")})
        self.assertEqual(self.classes(net), ["kpquv", "r", "s", "t", "w"])
        # What a steady part is wired to is not needed through it.
        self.assertEqual(self.needed(net), "kqstu")
        self.assertEqual(sorted(text for _, text in self.check(net).parts), ["const 1", "delay 1", "delay 2"])

    def test_steady_rings_without_a_const(self):
        for texts, steady in ((["delay 4"] * 3, True), (["delay 4", "delay 4", "delay 5"], False), (["delay 4"], True)):
            names = "abc"[:len(texts)]
            net = net_of("", dict(zip(names, texts)),
                         {f"{name}.in": out(names[(k + 1) % len(names)]) for k, name in enumerate(names)},
                         {"o": out("a")})
            least = self.check(net)
            self.assertEqual([text for _, text in least.parts], ["const 4"] if steady else texts)
            self.assertEqual(self.needed(net), "a" if steady else "abc")

    def test_rings_of_other_lengths(self):
        # Each value comes again after two instants, in rings of two, four and six delays.
        parts, wires = {}, {}
        for name, many in (("a", 2), ("b", 4), ("c", 6)):
            for k in range(many):
                parts[f"{name}{'abcdef'[k]}"] = f"delay {k % 2}"
                wires[f"{name}{'abcdef'[k]}.in"] = out(f"{name}{'abcdef'[(k + 1) % many]}")
        net = net_of("", parts, wires, {"o": out("cf"), "p": out("ba")})
        self.assertEqual([len(group) for group in part_classes(net)], [6, 6])
        self.assertEqual(len(self.check(net)), 2)

    def test_a_delay_fed_by_what_computes_a_const_is_not_steady(self):
        net = net_of("", {"k": "const 0", "s": "add", "d": "delay 0"}, {"s.a": out("k"), "s.b": out("k"),
                                                                         "d.in": out("s")}, {"o": out("d")})
        self.assertEqual(self.classes(net), ["k", "s", "d"])
        self.assertEqual(self.needed(net), "ksd")
        self.assertEqual(len(self.check(net)), 3)

    def test_lists_are_new(self):
        net = net_of("x", {"a": "delay 1", "b": "delay 1"}, {"a.in": x(), "b.in": x()}, {"o": out("a")})
        told = part_classes(net)
        told[0].clear()
        told.clear()
        needed_parts(net).clear()
        self.assertEqual((part_classes(net), needed_parts(net)), ([[("a",), ("b",)]], [("a",)]))
        self.assertEqual((type(part_classes(net)), type(part_classes(net)[0]), type(needed_parts(net))),
                         (list, list, list))

    def test_arguments_by_name(self):
        net = net_of("x", {"a": "delay 1"}, {"a.in": x()}, {"o": out("a")})
        self.assertEqual((part_classes(net=net), needed_parts(net=net)), ([[("a",)]], [("a",)]))
        self.assertTrue(least_net(net=net) == net)


class LeastTest(LeastCase):
    def test_counter(self):
        self.check(Net.of(library_of(COUNTER), "counter"))

    def test_two_counters_become_one(self):
        net = net_of("x", {"a": "delay 0", "b": "add", "c": "delay 0", "d": "add", "e": "sub"}, {
            "a.in": out("b"), "b.a": out("a"), "b.b": x(), "c.in": out("d"), "d.a": out("c"), "d.b": x(),
            "e.a": out("b"), "e.b": out("d")}, {"o": out("e"), "p": out("d")})
        self.assertEqual(len(self.check(net)), 3)

    def test_loops_of_other_lengths(self):
        # The second loop is the first one, written down twice.
        net = net_of("x", {"a": "delay 0", "b": "add", "c": "delay 0", "d": "add", "e": "delay 0", "f": "add"}, {
            "a.in": out("b"), "b.a": out("a"), "b.b": x(), "c.in": out("d"), "d.a": out("e"), "d.b": x(),
            "e.in": out("f"), "f.a": out("c"), "f.b": x()}, {"o": out("b"), "p": out("d"), "q": out("f")})
        self.assertEqual(self.classes(net), ["ace", "bdf"])
        self.assertEqual(len(self.check(net)), 2)

    def test_nothing_is_needed(self):
        net = net_of("x", {"a": "delay 0", "b": "add"}, {"a.in": x(), "b.a": x(), "b.b": out("a")})
        self.assertEqual(needed_parts(net), [])
        self.assertEqual(len(self.check(net)), 0)

    def test_a_needed_part_whose_like_is_not_needed(self):
        net = net_of("x", {"a": "delay 0", "b": "add", "c": "delay 0"}, {
            "a.in": x(), "b.a": out("a"), "b.b": x(), "c.in": x()}, {"o": out("c")})
        self.assertEqual(self.needed(net), "c")
        self.assertEqual(len(self.check(net)), 1)

    def test_what_a_steady_part_waits_for(self):
        net = net_of("", {"a": "delay 3", "b": "delay 3", "c": "delay 3", "s": "sub"}, {
            "a.in": out("b"), "b.in": out("c"), "c.in": out("b"), "s.a": out("a"), "s.b": out("c")}, {"o": out("s")})
        self.assertEqual(self.needed(net), "acs")
        self.assertEqual(sorted(text for _, text in self.check(net).parts), ["const 3", "sub"])

    def test_a_least_net_is_its_own(self):
        chance = random.Random(61)
        for _ in range(60):
            net = netcheck.random_net(chance, Net, chance.randrange(1, 9), WORDS)
            least = least_net(net)
            self.assertEqual(len(least_net(least)), len(least))
            self.assertEqual([len(group) for group in part_classes(least)], [1] * len(least))
            self.assertEqual(needed_parts(least), [path for path, _ in least.parts])

    def test_very_wide_nets(self):
        many = 3000
        parts, wires, last = delay_line(many, x())
        net = net_of("x", parts, wires, {"o": last})
        self.assertEqual(len(part_classes(net)), many)
        self.assertEqual(len(least_net(net)), many)
        parts, wires, last = delay_line(many, out("k"))
        net = net_of("x", {**parts, "k": "const 1"}, wires, {"o": last})
        self.assertEqual(([len(group) for group in part_classes(net)], len(needed_parts(net))), ([many + 1], 1))
        self.assertEqual([text for _, text in least_net(net).parts], ["const 1"])
        parts[long_name(0)] = "delay 2"
        net = net_of("x", {**parts, "k": "const 1"}, wires, {"o": last})
        self.assertEqual(len(least_net(net)), many + 1)
        parts, wires, last = delay_line(many, x())
        wires[f"{long_name(0)}.in"] = last
        net = net_of("x", parts, wires, {"o": last})
        self.assertEqual([text for _, text in least_net(net).parts], ["const 1"])

    def test_alike_trees(self):
        """Lay sixty-four sums of the same eight delays beside each other, in four kinds."""
        parts, wires = {}, {}
        for k in range(8):
            parts[long_name(k)] = "delay 0"
            wires[f"{long_name(k)}.in"] = x()
        for k in range(8, 72):
            parts[long_name(k)] = ("add", "sub")[k % 2]
            wires[f"{long_name(k)}.a"] = out(long_name(k % 8))
            wires[f"{long_name(k)}.b"] = (x(), x("y"))[k // 2 % 2]
        net = net_of("xy", parts, wires, {"o": out(long_name(71))})
        self.assertEqual(sorted(len(group) for group in part_classes(net)), [8, 16, 16, 16, 16])
        self.assertEqual(len(least_net(net)), 2)


class RandomTest(LeastCase):
    def test_against_a_plain_search(self):
        chance, smaller, steady = random.Random(62), 0, 0
        for _ in range(400):
            words = chance.choice((WORDS, ("delay 0", "delay 0", "delay 1", "const 0"), ("add", "delay 0", "const 0")))
            net = netcheck.random_net(chance, Net, chance.randrange(1, 9), words)
            least = self.check(net)
            smaller += len(least) < len(needed_parts(net))
            steady += any(text.startswith("delay") and movecheck.is_steady(net, path) for path, text in net.parts)
        self.assertGreater(min(smaller, steady), 40)

    def test_least_nets_answer_alike(self):
        chance = random.Random(63)
        for _ in range(200):
            net = netcheck.random_net(chance, Net, chance.randrange(2, 12), WORDS)
            least = least_net(net)
            history = [tuple(chance.randrange(4) for _ in net.inputs) for _ in range(12)]
            self.assertEqual(least(history), net(history))

    def test_functions_asked_in_turns(self):
        chance = random.Random(64)
        nets = [netcheck.random_net(chance, Net, 8, WORDS) for _ in range(6)]
        alone = [(part_classes(net), needed_parts(net), least_net(net)) for net in nets]
        for one, other in itertools.permutations(range(6), 2):
            self.assertEqual(part_classes(nets[one]), alone[one][0])
            self.assertEqual(needed_parts(nets[other]), alone[other][1])
            self.assertTrue(least_net(nets[one]) == alone[one][2])


if __name__ == "__main__":
    unittest.main()
