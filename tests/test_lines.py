"""Lines, good moves and moved nets: points 25 to 27."""

import itertools
import random
import unittest

import movecheck
from netkit import RaisedCase, delay_line, net_of, out, pipeline, random_line_net, x
from samples import ODD_VALUES, deep_value, variants
from stepblocks.errors import BadMoves, DelayRing, UnknownPort
from stepblocks.lines import are_good, line_of, moved_net
from stepblocks.nets import Net

WORDS = ("const 3", "add", "sub", "mul", "less", "equal", "pick", "divide")


def target(name, port="in"):
    return ((name,), port)


def ring_beside(parts, wires, outputs):
    """Return a net with a delay ring and other parts."""
    return net_of("x", {"r": "delay 1", "s": "delay 1", **parts}, {"r.in": out("s"), "s.in": out("r"), **wires}, outputs)


def document_net():
    return net_of("x", {"d": "delay 3", "k": "const 4", "s": "add"},
                  {"d.in": x(), "s.a": out("d"), "s.b": out("k")}, {"o": out("s")})


class LinesCase(RaisedCase):
    def check_moved(self, net, moves, chance=random.Random(1)):
        kept = dict(moves)
        moved = moved_net(net, moves)
        self.assertEqual(moves, kept)
        self.assertIsInstance(moved, Net)
        movecheck.judge_moved(net, moves, moved, chance)
        for place in movecheck.targets_of(moved):
            self.assertEqual(line_of(moved, place), movecheck.line(moved, place))
        return moved


class LineOfTest(LinesCase):
    def test_example_of_the_document(self):
        net = document_net()
        moved = moved_net(net, {("s",): 1})
        self.assertEqual(line_of(net, target("s", "a")), (x(), [3]))
        self.assertEqual(line_of(moved, target("s", "a")), (x(), []))
        self.assertEqual(line_of(moved, ((), "o")), (out("s"), [7]))
        self.assertEqual(line_of(target=((), "o"), net=moved), (out("s"), [7]))

    def test_the_nearest_to_the_target_comes_first(self):
        net = net_of("xy", {"a": "delay 1", "b": "delay 2", "c": "delay 3", "k": "const 9", "s": "divide"}, {
            "a.in": x("y"), "b.in": out("a"), "c.in": out("b"), "s.a": out("c"), "s.b": out("k")},
            {"o": out("c"), "p": x("y"), "q": out("b"), "r": out("s", "rest"), "in": out("c")})
        for place, expected in ((target("s", "a"), (x("y"), [3, 2, 1])), (target("s", "b"), (out("k"), [])),
                                (((), "o"), (x("y"), [3, 2, 1])), (((), "p"), (x("y"), [])),
                                (((), "q"), (x("y"), [2, 1])), (((), "r"), (out("s", "rest"), [])),
                                (((), "in"), (x("y"), [3, 2, 1]))):
            told = line_of(net, place)
            self.assertEqual(told, expected)
            self.assertEqual((type(told), type(told[1])), (tuple, list))
            told[1].clear()
            self.assertEqual(line_of(net, place), expected)

    def test_unknown_ports(self):
        net = document_net()
        deep = deep_value(50)
        for value in (*ODD_VALUES, deep, ((), "x"), ((), "s"), target("d"), target("d", "out"), target("s", "out"),
                      target("s", "c"), target("k"), target("z", "a"), (("s", "s"), "a"), [("s",), "a"], (["s"], "a"),
                      (("s",), ["a"]), (("s",), "a", "a"), (("s",),), ("s", "a"), "o", (((),), "o"), ((), ("o",))):
            self.assertEqual(self.raised(UnknownPort, line_of, net, value), {"name": value})
        for place in movecheck.targets_of(net):
            for value in variants(place):
                if value not in movecheck.targets_of(net):
                    self.assertEqual(self.raised(UnknownPort, line_of, net, value), {"name": value})

    def test_unknown_ports_come_ahead_of_delay_rings(self):
        net = ring_beside({"a": "add"}, {"a.a": x(), "a.b": out("r")}, {"o": x()})
        for value in (target("r"), target("s"), target("a", "out"), None, [], ((), "x")):
            self.assertEqual(self.raised(UnknownPort, line_of, net, value), {"name": value})
        for value in (target("a", "a"), target("a", "b"), ((), "o")):
            self.assertEqual(self.raised(DelayRing, line_of, net, value), {})

    def test_long_lines(self):
        parts, wires, last = delay_line(3000, x())
        net = net_of("x", parts, wires, {"o": last})
        self.assertEqual(line_of(net, ((), "o")), (x(), [1] * 3000))


class DelayRingTest(LinesCase):
    def test_rings_anywhere(self):
        for many in (1, 2, 5):
            parts = {f"r{'abcde'[k]}": "delay 0" for k in range(many)}
            names = list(parts)
            wires = {f"{names[k]}.in": out(names[k - 1]) for k in range(many)}
            net = net_of("x", {"s": "add", **parts, "t": "delay 2"},
                         {"s.a": x(), "s.b": x(), **wires, "t.in": out(names[0])}, {"o": out("s")})
            for value in (None, {}, {("s",): 0}, {("s",): 200}):
                self.assertEqual(self.raised(DelayRing, are_good, net, value), {})
                self.assertEqual(self.raised(DelayRing, moved_net, net, value), {})
            self.assertEqual(self.raised(DelayRing, line_of, net, ((), "o")), {})

    def test_loops_through_other_parts_are_no_delay_rings(self):
        net = net_of("x", {"d": "delay 1", "e": "delay 2", "s": "sub"}, {
            "d.in": out("e"), "e.in": out("s"), "s.a": out("d"), "s.b": x()}, {"o": out("d")})
        self.assertEqual(line_of(net, ((), "o")), (out("s"), [1, 2]))
        self.assertIs(are_good(net, {("s",): 0}), True)


class GoodTest(LinesCase):
    def test_one_part(self):
        net = document_net()
        for many, good in ((0, True), (1, True), (2, False), (100, False), (-1, False), (True, False), (False, False),
                           (None, False), ("1", False), ([1], False), (1.0, False)):
            self.assertIs(are_good(net, {("s",): many}), good)

    def test_any_value(self):
        net = document_net()
        for value in (*ODD_VALUES, deep_value(50), {("s",): 0, ("k",): 0}, {("s",): 0, ("d",): 0}, {}, {"s": 0},
                      {("s",): 0, (): 0}, {("s", "s"): 0}, [(("s",), 0)], ((("s",), 0),), {("s",): {}},
                      {("s",): ("s",)}, {(("s",),): 0}, {("s",): deep_value(40)}):
            self.assertIs(are_good(net, value), False, value)
            self.assertEqual(self.raised(BadMoves, moved_net, net, value), {})
        self.assertIs(are_good(value={("s",): 1}, net=net), True)

    def test_nets_without_parts_to_move(self):
        for net in (Net((), (), (), ()), net_of("x", {"d": "delay 0", "k": "const 1"}, {"d.in": x()}, {"o": out("d")})):
            self.assertIs(are_good(net, {}), True)
            for value in (None, [], (), {("d",): 0}, {("k",): 0}):
                self.assertIs(are_good(net, value), False)
            self.assertTrue(len(moved_net(net, {})) == len(net))

    def test_lines_from_consts_set_no_bound(self):
        net = net_of("", {"k": "const 1", "d": "delay 2", "s": "add"},
                     {"d.in": out("k"), "s.a": out("k"), "s.b": out("d")})
        for many in (0, 1, 2, 99, 100):
            self.assertIs(are_good(net, {("s",): many}), True)
            self.check_moved(net, {("s",): many})
        for many in (101, 1000, 10 ** 30, -1):
            self.assertIs(are_good(net, {("s",): many}), False)
            self.assertEqual(self.raised(BadMoves, moved_net, net, {("s",): many}), {})

    def test_outputs_and_inputs_are_not_moved(self):
        net = pipeline(["add", "sub"], [2, 1, 1])
        for one, other in itertools.product(range(5), repeat=2):
            moves = {("paa",): one, ("pab",): other}
            self.assertIs(are_good(net, moves), one <= 2 and other <= one + 1)
            self.assertIs(movecheck.judge_moves(net, moves), one <= 2 and other <= one + 1)

    def test_a_loop_may_be_moved_on_and_on(self):
        net = net_of("", {"d": "delay 1", "s": "add"}, {"d.in": out("s"), "s.a": out("d"), "s.b": out("d")},
                     {"o": out("s")})
        for many in (0, 1, 50, 100):
            self.assertIs(are_good(net, {("s",): many}), True)
            self.check_moved(net, {("s",): many})
        self.assertIs(are_good(net, {("s",): 101}), False)

    def test_all_moves_of_small_nets(self):
        chance, judged = random.Random(71), {True: 0, False: 0}
        while min(judged.values()) < 300:
            net = random_line_net(chance, chance.randrange(1, 4), chance.randrange(5), WORDS)
            if net is None:
                continue
            for numbers in itertools.product(range(-1, 4), repeat=len(movecheck.movable(net))):
                moves = dict(zip(movecheck.movable(net), numbers))
                good = movecheck.judge_moves(net, moves)
                self.assertIs(are_good(net, moves), good)
                judged[good] += 1
                if not good:
                    self.assertEqual(self.raised(BadMoves, moved_net, net, moves), {})


class MovedTest(LinesCase):
    def test_counter(self):
        net = net_of("x", {"d": "delay 5", "s": "add"}, {"d.in": out("s"), "s.a": out("d"), "s.b": x()},
                     {"o": out("d"), "p": out("s")})
        self.assertIs(are_good(net, {("s",): 1}), False)
        moved = self.check_moved(net, {("s",): 0})
        self.assertEqual(moved([(1,), (2,)]), [(5, 6), (6, 8)])

    def test_values_that_are_computed_ahead(self):
        net = net_of("x", {"d": "delay 7", "e": "delay 5", "s": "sub", "k": "const 2", "m": "mul"}, {
            "d.in": x(), "e.in": out("d"), "s.a": out("e"), "s.b": out("k"), "m.a": out("s"), "m.b": out("s")},
            {"o": out("m")})
        moved = self.check_moved(net, {("s",): 2, ("m",): 2})
        self.assertEqual(line_of(moved, ((), "o")), (out("m"), [9, 25]))
        self.assertEqual(line_of(moved, target("s", "a")), (x(), []))
        moved = self.check_moved(net, {("s",): 2, ("m",): 1})
        self.assertEqual(line_of(moved, target("m", "a")), (out("s"), [5]))
        self.assertEqual(line_of(moved, ((), "o")), (out("m"), [9]))

    def test_both_outputs_of_divide(self):
        net = net_of("xy", {"a": "delay 17", "b": "delay 5", "c": "delay 9", "e": "delay 0", "q": "divide"}, {
            "a.in": x(), "b.in": x("y"), "c.in": out("a"), "e.in": out("b"), "q.a": out("c"), "q.b": out("e")},
            {"o": out("q", "rest"), "p": out("q", "quotient")})
        moved = self.check_moved(net, {("q",): 2})
        self.assertEqual(line_of(moved, ((), "o")), (out("q", "rest"), [9, 2]))
        self.assertEqual(line_of(moved, ((), "p")), (out("q", "quotient"), [0, 3]))

    def test_lines_from_consts_keep_what_is_left(self):
        net = net_of("x", {"k": "const 9", "a": "delay 1", "b": "delay 2", "d": "delay 3", "s": "add"}, {
            "a.in": out("k"), "b.in": out("a"), "d.in": x(), "s.a": out("b"), "s.b": out("d")},
            {"o": out("s"), "p": out("b")})
        moved = self.check_moved(net, {("s",): 1})
        self.assertEqual(line_of(moved, target("s", "a")), (out("k"), [1]))
        self.assertEqual(line_of(moved, ((), "p")), (out("k"), [2, 1]))
        self.assertEqual(line_of(moved, ((), "o")), (out("s"), [5]))

    def test_lines_that_shared_delays_are_parted(self):
        net = net_of("x", {"a": "delay 1", "b": "delay 2", "s": "add", "u": "delay 6"},
                     {"a.in": x(), "b.in": out("a"), "s.a": out("b"), "s.b": out("a"), "u.in": out("b")}, {"o": out("b")})
        moved = self.check_moved(net, {("s",): 0})
        # The delay u is on no line.
        self.assertEqual(len(moved), 1 + 2 + 1 + 2)

    def test_paths_of_other_parts_are_not_taken(self):
        names = ["da", "db", "dc", "d", "daa", "dba", "dbb"]
        parts, wires = {name: "add" for name in names}, {}
        for k, name in enumerate(names):
            wires.update({f"{name}.{port}": out("e") if k == 0 else out(names[k - 1]) for port in "ab"})
        net = net_of("x", {**parts, "e": "delay 1", "f": "delay 2"}, {**wires, "e.in": out("f"), "f.in": x()},
                     {"o": out("f"), "p": out("dbb")})
        for many in range(3):
            self.check_moved(net, {(name,): many for name in names})
        moved = self.check_moved(net, {(name,): 1 for name in names})
        self.check_moved(moved, {(name,): 1 for name in names})

    def test_moves_are_read_in_any_order(self):
        net = pipeline(["add", "sub", "mul"], [3, 0, 0, 0])
        moves = {("pac",): 1, ("paa",): 3, ("pab",): 2}
        told = moved_net(moves=moves, net=net)
        self.assertTrue(told == moved_net(net, dict(reversed(moves.items()))))
        movecheck.judge_moved(net, moves, told, random.Random(2))

    def test_a_hundred_moves(self):
        net = pipeline(["add", "divide", "sub"], [100, 0, 1, 0])
        self.check_moved(net, {("paa",): 100, ("pab",): 100, ("pac",): 100})
        self.check_moved(net, {("paa",): 100, ("pab",): 60, ("pac",): 1})

    def test_wide_nets(self):
        texts = ["add", "sub"] * 24
        net = pipeline(texts, [100] + [0] * 48)
        moved = moved_net(net, {path: 100 for path in movecheck.movable(net)})
        history = [(k,) for k in range(110)]
        self.assertEqual(moved(history), net(history))
        self.assertEqual(len(line_of(moved, ((), "o"))[1]), 100)
        again = moved_net(moved, {path: 0 for path in movecheck.movable(net)})
        self.assertEqual([line_of(again, place) for place in movecheck.targets_of(moved)],
                         [line_of(moved, place) for place in movecheck.targets_of(moved)])

    def test_moving_on_adds_up(self):
        chance, found = random.Random(72), 0
        while found < 60:
            net = random_line_net(chance, 3, 5, WORDS)
            if net is None:
                continue
            choices = list(movecheck.all_good(net, 2))
            moves = chance.choice(choices)
            moved = moved_net(net, moves)
            more = chance.choice(list(movecheck.all_good(moved, 2)))
            both = {path: moves[path] + more[path] for path in moves}
            self.assertIs(are_good(net, both), True)
            one, two = moved_net(moved, more), moved_net(net, both)
            for place in movecheck.targets_of(net):
                self.assertEqual(line_of(one, place), line_of(two, place))
            found += any(moves.values()) and any(more.values())

    def test_all_good_moves_of_small_nets(self):
        chance, found, lost = random.Random(73), 0, 0
        while found < 150:
            net = random_line_net(chance, chance.randrange(1, 4), chance.randrange(1, 6), WORDS)
            if net is None:
                continue
            choices = list(movecheck.all_good(net, 3))
            for moves in chance.sample(choices, min(4, len(choices))):
                moved = self.check_moved(net, moves, chance)
                found += any(moves.values())
                lost += len(moved) < len(net)
        self.assertGreater(lost, 10)

    def test_functions_asked_in_turns(self):
        nets = [pipeline(["add", "sub"], [2, k, 1]) for k in range(3)]
        moves = {("paa",): 1, ("pab",): 1}
        alone = [moved_net(net, moves) for net in nets]
        for one, other in itertools.permutations(range(3), 2):
            self.assertTrue(moved_net(nets[one], moves) == alone[one])
            self.assertTrue(moved_net(nets[other], moves) == alone[other])


if __name__ == "__main__":
    unittest.main()
