"""Nets: points 19 and 20."""

import random
import unittest
from unittest import mock

import netcheck
import portcheck
from samples import COUNTER, NESTED, ODD_VALUES, USER, chain_texts, deep_value, library_of, many_parts, named, variants
from samples import sized_library
from stepblocks.blocks import Diagram
from stepblocks.errors import BadNet, BadValue, BlockError, TooLarge, UnknownBlock, WrongCount
from stepblocks.flat import flatten
from stepblocks.library import Library
from stepblocks.machine import Runner
from stepblocks.nets import Net

TOP = 2 ** 32 - 1
TOTAL = (("sum",), "out")
FOUR = (("up",), ("total",), ((("old",), "delay 0"), (("sum",), "add")),
        (((("old",), "in"), TOTAL), ((("sum",), "a"), (("old",), "out")), ((("sum",), "b"), ((), "up")),
         (((), "total"), TOTAL)))
WORDS = ("const 3", "add", "sub", "mul", "less", "equal", "pick", "divide", "delay 0", "delay 4294967295")


def consts(many):
    """Return the parts of a net of so many consts."""
    return tuple(((named(k),), f"const {k}") for k in range(many))


def line(many, text="delay 1"):
    """Return four values that make a net of parts one behind the other."""
    source, wires = ((), "x"), []
    paths = [(named(k // 26 ** 2), named(k % 26 ** 2)) for k in range(many)]
    for path in paths:
        names = ("in",) if text.startswith("delay") else ("a", "b")
        wires += [((path, name), source) for name in names]
        source = (path, "out")
    return ("x",), ("o",), tuple((path, text) for path in paths), (*wires, (((), "o"), source))


class NetCase(unittest.TestCase):
    def refuse(self, *four):
        for make in (Net, Net.wide):
            with self.assertRaises(BadNet, msg=four) as caught:
                make(*four)
            self.assertEqual(vars(caught.exception), {})
            self.assertIsInstance(caught.exception, BlockError)

    def accept(self, *four):
        net = Net(*four)
        self.assertEqual((net.inputs, net.outputs, net.parts, net.wires), four)
        self.assertTrue(net == Net.wide(*four))
        return net


class RightTest(NetCase):
    def test_counter(self):
        net = self.accept(*FOUR)
        self.assertIsInstance(net, Net)
        self.assertEqual([net([(3,), (4,)]), len(net), ("old",) in net], [[(3,), (7,)], 2, True])

    def test_arguments_by_name(self):
        net = Net(wires=FOUR[3], parts=FOUR[2], outputs=FOUR[1], inputs=FOUR[0])
        self.assertTrue(net == Net(*FOUR))
        self.assertTrue(net == Net.wide(wires=FOUR[3], parts=FOUR[2], outputs=FOUR[1], inputs=FOUR[0]))
        self.assertEqual(net(history=[(5,)]), [(5,)])

    def test_nothing_at_all(self):
        net = self.accept((), (), (), ())
        self.assertEqual((len(net), net([]), net([(), ()])), (0, [], [(), ()]))

    def test_eight_inputs_and_outputs(self):
        net = self.accept(tuple("abcdefgh"), tuple("ijklmnop"), (), tuple(
            (((), one), ((), other)) for one, other in zip("ijklmnop", "hgfedcba")))
        self.assertEqual(net([tuple(range(8))]), [tuple(range(7, -1, -1))])

    def test_forty_eight_parts(self):
        self.assertEqual(len(self.accept((), (), consts(48), ())), 48)
        self.assertEqual(len(self.accept(*line(48))), 48)

    def test_wide_nets(self):
        for four in (((), (), consts(49), ()), line(49), line(49, "add")):
            with self.assertRaises(BadNet):
                Net(*four)
            net = Net.wide(*four)
            self.assertIsInstance(net, Net)
            self.assertEqual((net.inputs, net.outputs, net.parts, net.wires), four)
            self.assertEqual((len(net), four[2][48][0] in net, net == Net.wide(*four)), (49, True, True))

    def test_very_wide_nets(self):
        net = Net.wide(*line(5000, "add"))
        self.assertEqual((len(net), net([(1,), (3,)])), (5000, [(0,), (0,)]))
        net = Net.wide(*line(3000))
        self.assertEqual(net([(7,), (8,)]), [(1,), (1,)])
        four = list(line(3000, "add"))
        four[3] = (((four[2][0][0], "a"), (four[2][-1][0], "out")), *four[3][1:])
        self.refuse(*four)

    def test_paths(self):
        path = tuple("abcdefgh" * 3)
        self.accept((), (), ((path, "const 1"), (path[:23], "const 2"), (path[1:], "const 2"), (("zzzzzzzz",), "const 0")),
                    ())
        self.accept((), (), ((("a",), "const 1"), (("a", "a"), "const 2"), (("a", "b"), "const 2")), ())

    def test_names_of_parts_may_be_those_of_ports_and_words(self):
        self.accept(("a", "add"), ("b", "const"), ((("a",), "const 1"), (("b",), "const 1"), (("add",), "const 1")),
                    ((((), "b"), ((), "a")), (((), "const"), (("b",), "out"))))

    def test_all_primitives_and_values(self):
        parts, wires = [], []
        for k, text in enumerate((*WORDS, "const 0", "const 4294967295")):
            parts.append(((named(k),), text))
            wires += [(((named(k),), name), ((), "x")) for name in netcheck.PORTS[text.split()[0]][0]]
        self.accept(("x",), (), tuple(parts), tuple(wires))

    def test_cycles_that_pass_a_delay(self):
        d, s = (("d",), "out"), (("s",), "out")
        self.accept((), (), ((("d",), "delay 1"),), (((("d",), "in"), d),))
        self.accept((), ("o",), ((("s",), "add"), (("d",), "delay 1")),
                    (((("s",), "a"), d), ((("s",), "b"), d), ((("d",), "in"), s), (((), "o"), s)))


class WrongTest(NetCase):
    def change(self, place, value):
        four = list(FOUR)
        four[place] = value
        return four

    def test_odd_values_in_each_place(self):
        for place in range(4):
            for value in (*ODD_VALUES, *FOUR, list(FOUR[place]), deep_value(50), Net(*FOUR), 1.5, b"x"):
                four = self.change(place, value)
                if netcheck.judge_net(*four):
                    self.accept(*four)
                else:
                    self.refuse(*four)
        for value in ODD_VALUES:
            four = (value,) * 4
            if value == ():
                self.accept(*four)
            else:
                self.refuse(*four)

    def test_changes_at_all_depths(self):
        judged = [0, 0]
        for place in range(4):
            for value in variants(FOUR[place]):
                four = self.change(place, value)
                expected = netcheck.judge_net(*four)
                judged[expected] += 1
                if expected:
                    self.accept(*four)
                else:
                    self.refuse(*four)
        self.assertGreater(judged[0], 1000)
        self.assertGreater(judged[1], 2)

    def test_names(self):
        for name in ("", "block", "part", "end", "self", "abcdefghi", "A", "a1", "a b", " a", "a.b", "a\n"):
            self.refuse((name,), (), (), ())
            self.refuse((), (), (((name,), "const 1"),), ())
            self.refuse((), (), ((("a", name), "const 1"),), ())
            self.refuse(("x",), (name,), (), ((((), name), ((), "x")),))

    def test_names_all_different(self):
        self.refuse(("a", "a"), (), (), ())
        self.refuse(("a",), ("b", "b"), (), ((((), "b"), ((), "a")), (((), "b"), ((), "a"))))
        self.refuse(("a",), ("a",), (), ((((), "a"), ((), "a")),))

    def test_nine_inputs_or_outputs(self):
        nine = tuple("abcdefghi")
        self.refuse(nine, (), (), ())
        self.refuse(("x",), nine, (), tuple((((), name), ((), "x")) for name in nine))

    def test_paths(self):
        for path in ((), tuple("abcdefghi" * 3)[:25], "a", ["a"], ("a", 1), ("a", ("b",)), (("a",),), None, ("a", None)):
            self.refuse((), (), ((path, "const 1"),), ())
        self.refuse((), (), ((("a",), "const 1"), (("a",), "const 1")), ())
        self.refuse((), (), ((("a",), "const 1"), (("b",), "const 1"), (("a",), "const 2")), ())

    def test_texts(self):
        for text in ("", "const", "delay", "const 01", "const -1", "const 4294967296", "const  1", "const 1 ", "add ",
                     "counter", "Add", "add 1", "const " + "9" * 5000, None, 1, ("const 1",), ["const 1"], b"const 1"):
            self.refuse((), (), ((("a",), text),), ())

    def test_one_wire_for_each_target_in_order(self):
        wires = FOUR[3]
        for k in range(4):
            self.refuse(*self.change(3, wires[:k] + wires[k + 1:]))
            self.refuse(*self.change(3, wires[:k] + wires[k:k + 1] + wires[k:]))
            for j in range(k):
                turned = list(wires)
                turned[j], turned[k] = turned[k], turned[j]
                self.refuse(*self.change(3, tuple(turned)))
        self.refuse(*self.change(3, wires + ((((), "up"), TOTAL),)))
        self.refuse(*self.change(3, wires + (((("x",), "a"), TOTAL),)))

    def test_inputs_in_the_order_of_the_document(self):
        wires = tuple(((("p",), name), ((), "x")) for name in "cab")
        self.accept(("x",), (), ((("p",), "pick"),), wires)
        self.refuse(("x",), (), ((("p",), "pick"),), wires[1:] + wires[:1])

    def test_sources(self):
        wires = FOUR[3]
        for source in (((), "total"), ((), "down"), (("old",), "in"), (("sum",), "a"), (("sum",), "rest"), (("x",), "out"),
                       (("up",), "up"), ("sum", "out"), (["sum"], "out"), ("", "up"), (("sum",), "out", 1), (("sum",),),
                       TOTAL[0], None, 0, ([], "up"), ((), ["up"]), ({}, "up"), ((), {}), [("sum",), "out"],
                       (((("sum",),),), "out"), deep_value(48)):
            for k in range(4):
                changed = list(wires)
                changed[k] = (wires[k][0], source)
                self.refuse(*self.change(3, tuple(changed)))

    def test_cycles(self):
        s, t = (("s",), "out"), (("t",), "out")
        self.refuse((), (), ((("s",), "add"),), (((("s",), "a"), s), ((("s",), "b"), s)))
        self.refuse(("x",), (), ((("s",), "add"),), (((("s",), "a"), ((), "x")), ((("s",), "b"), s)))
        self.refuse(("x",), ("o",), ((("s",), "add"), (("t",), "sub")), (
            ((("s",), "a"), ((), "x")), ((("s",), "b"), t), ((("t",), "a"), s), ((("t",), "b"), s),
            (((), "o"), ((), "x"))))

    def test_forty_nine_parts(self):
        with self.assertRaises(BadNet):
            Net((), (), consts(49), ())
        with self.assertRaises(BadNet):
            Net(*line(49))
        self.refuse((), (), consts(49) + consts(1), ())

    def test_random_nets(self):
        chance, judged = random.Random(41), [0, 0]
        for _ in range(1500):
            many = chance.randrange(1, 5)
            four = netcheck.random_net(chance, lambda *four: four, many, WORDS)
            parts, wires = four[2], list(four[3])
            every = [((), name) for name in four[0]] + [(path, name) for path, text in parts
                                                        for name in netcheck.PORTS[text.split()[0]][1]]
            if chance.randrange(3):
                k = chance.randrange(len(wires))
                wires[k] = (wires[k][0], chance.choice(every))
            four = (*four[:3], tuple(wires))
            expected = netcheck.judge_net(*four)
            judged[expected] += 1
            if expected:
                self.accept(*four)
            else:
                self.refuse(*four)
        self.assertGreater(min(judged), 100)


class ObjectTest(NetCase):
    def test_equality(self):
        net = Net(*FOUR)
        same = Net(tuple(["up"]), *FOUR[1:])
        self.assertIs(net == same, True)
        self.assertIs(net != same, False)
        others = [Net(("up",), ("total",), FOUR[2], FOUR[3][:3] + ((((), "total"), ((), "up")),)),
                  Net(("up",), ("total",), ((("old",), "delay 1"), (("sum",), "add")), FOUR[3]),
                  Net(("up",), ("sums",), FOUR[2], FOUR[3][:3] + ((((), "sums"), TOTAL),)),
                  Net(("up", "down"), *FOUR[1:]), Net((), (), (), ())]
        for other in others:
            self.assertIs(net == other, False)
            self.assertIs(net != other, True)

    def test_no_other_value_is_equal(self):
        net = Net(*FOUR)
        for value in (*ODD_VALUES, FOUR, list(FOUR), Diagram.parse(COUNTER), 2, mock.ANY):
            self.assertIs(net == value, False)
            self.assertIs(net != value, True)

    def test_orders_count(self):
        one = Net(("x", "y"), (), consts(2), ())
        self.assertTrue(one != Net(("y", "x"), (), consts(2), ()))
        self.assertTrue(one != Net(("x", "y"), (), consts(2)[::-1], ()))

    def test_paths_of_parts(self):
        net = Net((), (), ((("a", "d"), "const 1"), (("c",), "const 1"), (("ad",), "const 1")), ())
        for value in (*ODD_VALUES, "ad", "c", ("c", "out"), ("d",), ("d", "a"), ["c"], (("c",), "out"), deep_value(50),
                      (("a", "d"),), {("c",): 1}, 1.5, net, ("a", "d", "x"), (("a",), "d"), ("a", ("d",))):
            self.assertIs(value in net, False, value)
        for value in (("a", "d"), ("c",), ("ad",)):
            self.assertIs(value in net, True)
            self.assertIs(value not in net, False)

    def test_nets_do_not_change(self):
        net = Net(*FOUR)
        net([(1,), (2,)])
        self.assertTrue(net == Net(*FOUR))
        self.assertEqual(net([(1,), (2,)]), [(1,), (3,)])


class HistoryTest(NetCase):
    def test_small_ones(self):
        net, history = Net(*FOUR), [(1,), (TOP,), (5,)]
        told = net(history)
        self.assertEqual((told, history), ([(1,), (0,), (5,)], [(1,), (TOP,), (5,)]))
        self.assertIsInstance(told, list)
        told.clear()
        self.assertEqual(net(history), [(1,), (0,), (5,)])
        self.assertEqual(net([]), [])

    def test_wrong_rows(self):
        net = Net(("x", "y"), (), (), ())
        for history, kind, attributes in (
                ([(1,)], WrongCount, {"count": 2}), ([(1, 2, 3)], WrongCount, {"count": 2}),
                ([()], WrongCount, {"count": 2}), ([(1, 2), (1, 2), (None,)], WrongCount, {"count": 2}),
                ([(1, -1)], BadValue, {"name": "y"}), ([(2 ** 32, -1)], BadValue, {"name": "x"}),
                ([(0, 0), (True, 1)], BadValue, {"name": "x"}), ([(0, 0), (0, None), (1,)], BadValue, {"name": "y"}),
                ([(0, 0), (1,), (0, None)], WrongCount, {"count": 2})):
            with self.assertRaises(kind) as caught:
                net(history)
            self.assertEqual(vars(caught.exception), attributes)
        for value in ODD_VALUES:
            if type(value) is not int or not 0 <= value <= TOP:
                with self.assertRaises(BadValue) as caught:
                    net([(0, TOP), (value, 0)])
                self.assertEqual(caught.exception.name, "x")
        with self.assertRaises(WrongCount):
            Net((), (), (), ())([(1,)])

    def test_against_values_found_backwards(self):
        chance = random.Random(42)
        for _ in range(300):
            net = netcheck.random_net(chance, Net, chance.randrange(1, 9), WORDS)
            history = [tuple(chance.choice((0, 1, 2, 7, 2 ** 31, TOP)) for _ in net.inputs) for _ in range(6)]
            self.assertEqual(net(history), netcheck.answers_of(net.inputs, net.outputs, net.parts, net.wires, history))


class OfTest(NetCase):
    def test_small_ones(self):
        library = library_of(COUNTER, USER, NESTED, *chain_texts(10), "block none(;)\nend")
        for name in library.names:
            net = Net.of(library, name)
            diagram = library.diagram(name)
            self.assertEqual((net.inputs, net.outputs), (diagram.inputs, diagram.outputs))
            self.assertEqual((net.parts, net.wires), flatten(library, name))
            self.accept(net.inputs, net.outputs, net.parts, net.wires)
        self.assertTrue(Net.of(library=library, name="user") == Net.of(library, "user"))

    def test_twenty_four_deep(self):
        net = Net.of(library_of(*chain_texts(24)), named(23))
        self.assertEqual((len(net), net([(5,), (6,)])), (1, [(1,), (5,)]))
        self.assertIn(tuple("p" * 23) + ("x",), net)

    def test_errors(self):
        with self.assertRaises(UnknownBlock) as caught:
            Net.of(Library(), "x")
        self.assertEqual(caught.exception.name, "x")
        with self.assertRaises(TooLarge) as caught:
            Net.of(sized_library(1), "top")
        self.assertEqual(caught.exception.count, 257)
        with self.assertRaises(TooLarge) as caught:
            Net.of(sized_library(0), "top")
        self.assertEqual(caught.exception.count, 240)

    def test_forty_eight_and_forty_nine_primitives(self):
        leaf, large = many_parts("leaf", ["const 1"] * 16), many_parts("large", ["const 1"] * 15 + ["leaf"])
        library = library_of(leaf, many_parts("few", ["leaf"] * 3), many_parts("many", ["leaf"] * 3 + ["const 2"]),
                             large)
        self.assertEqual(len(Net.of(library, "few")), 48)
        self.assertEqual(len(Net.of(library, "large")), 31)
        with self.assertRaises(TooLarge) as caught:
            Net.of(library, "many")
        self.assertEqual(caught.exception.count, 49)

    def test_answers_as_a_runner_does(self):
        chance = random.Random(43)
        for _ in range(60):
            library, name = portcheck.random_library(chance, 3, 5, WORDS)
            net = Net.of(library, name) if len(flatten(library, name)[0]) <= 48 else None
            if net:
                history = [tuple(chance.choice((0, 1, 2, TOP)) for _ in net.inputs) for _ in range(5)]
                self.assertEqual(net(history), list(Runner(library, name).trace(history)))


if __name__ == "__main__":
    unittest.main()
