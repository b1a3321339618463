"""Periods, least moves and bars: points 28 to 30."""

import itertools
import random
import unittest

import movecheck
from movecheck import COSTS
from netkit import RaisedCase, net_of, out, pipeline, random_line_net, x
from samples import ODD_VALUES, deep_value, variants
from stepblocks.errors import DelayRing
from stepblocks.lines import are_good, moved_net
from stepblocks.nets import Net
from stepblocks.periods import bar_for, is_bar, least_moves, least_period, period, slowest

WORDS = ("add", "sub", "mul", "less", "pick", "divide", "const 3")
RULES = ("add", "sub", "mul", "less", "equal", "pick", "divide")
FREE = {word: 0 for word in RULES}


def document_net():
    return net_of("x", {"d": "delay 0", "m": "mul", "s": "add"}, {
        "d.in": x(), "m.a": out("d"), "m.b": out("d"), "s.a": out("m"), "s.b": out("d")}, {"o": out("s")})


def loop(texts, delays):
    """Return a net of one loop of parts p0, p1 .. with so many delays ahead of each; no input leads into it."""
    parts, wires, made = {}, {}, 0
    for k, text in enumerate(texts):
        source = out(f"p{chr(97 + (k - 1) % len(texts))}", "rest" if texts[k - 1] == "divide" else "out")
        for _ in range(delays[k]):
            parts[f"d{chr(97 + made)}"] = "delay 0"
            wires[f"d{chr(97 + made)}.in"] = source
            source = out(f"d{chr(97 + made)}")
            made += 1
        parts[f"p{chr(97 + k)}"] = text
        wires.update({f"p{chr(97 + k)}.{port}": source for port in "ab"})
    order = sorted(parts)
    return net_of("x", {name: parts[name] for name in order},
                  {place: wires[place] for name in order for place in wires if place.startswith(name + ".")})


def wide_net(chance, rules, delays):
    """Return a net with many parts, each wired to those just before it, or to delays anywhere, often to one alone."""
    names = [f"p{chr(97 + k // 26)}{chr(97 + k % 26)}" for k in range(rules)]
    held = [f"q{chr(97 + k // 26)}{chr(97 + k % 26)}" for k in range(delays)]
    texts = {name: chance.choice(RULES) for name in names}
    ports = {name: movecheck.PORTS[texts[name]] for name in names}
    wires = {}

    def source_for(k):
        kind, before = chance.random(), names[max(0, k - 1 - chance.randrange(3))]
        if kind < 0.45 and held:
            return out(chance.choice(held))
        return out(before, chance.choice(ports[before][1])) if kind < 0.9 and k else x(chance.choice("xyz"))

    for k, name in enumerate(names):
        alone = source_for(k) if chance.random() < 0.7 else None
        wires.update({f"{name}.{port}": alone or source_for(k) for port in ports[name][0]})
    for k, name in enumerate(held):
        before = chance.choice(names)
        wires[f"{name}.in"] = chance.choice([out(held[k - 1]) if k else x(), x(chance.choice("xyz")),
                                             out(before, ports[before][1][-1])])
    last, middle = names[-1], names[rules // 2]
    return net_of("xyz", {**texts, **{name: "delay 1" for name in held}}, wires,
                  {"o": out(last, ports[last][1][0]), "p": out(middle, ports[middle][1][0])})


class PeriodsCase(RaisedCase):
    def check_period(self, net, costs):
        expected = movecheck.period(net, costs)
        self.assertEqual(period(net, costs=costs), expected)
        chain = slowest(net, costs=costs)
        if movecheck.movable(net):
            self.assertTrue(movecheck.judge_chain(net, chain), chain)
            self.assertEqual(sum(movecheck.cost_of(net, path, costs) for path in chain), expected)
        else:
            self.assertEqual((chain, expected), ([], 0))
        return expected

    def check_bound(self, net, costs, bound):
        """Check all that is told of a bound; return whether there are good moves for it."""
        moves, bar = least_moves(net, costs=costs, bound=bound), bar_for(net, costs=costs, bound=bound)
        if moves is None:
            self.assertTrue(movecheck.judge_bar(net, bar, costs, bound), bar)
            self.assertIs(is_bar(net, bar, costs=costs, bound=bound), True)
            return False
        self.assertIsNone(bar)
        self.assertTrue(movecheck.judge_moves(net, moves))
        self.assertLessEqual(movecheck.period_moved(net, moves, costs), bound)
        # Moves that could be taken back at one part alone would not be the least ones.
        for path in moves:
            if moves[path]:
                fewer = {**moves, path: moves[path] - 1}
                self.assertFalse(movecheck.judge_moves(net, fewer) and
                                 movecheck.period_moved(net, fewer, costs) <= bound, path)
        return True


class PeriodTest(PeriodsCase):
    def test_example_of_the_document(self):
        net = document_net()
        self.assertEqual([period(net, costs=COSTS), least_period(net, costs=COSTS)], [6, 5])
        self.assertEqual(sorted(least_moves(net, costs=COSTS, bound=5).items()), [(("m",), 1), (("s",), 0)])
        self.assertIs(is_bar(net, [(out("m"), ())], costs=COSTS, bound=4), True)
        self.assertEqual(slowest(net, costs=COSTS), [("m",), ("s",)])

    def test_arguments_by_name_in_any_order(self):
        net = document_net()
        self.assertEqual((period(costs=COSTS, net=net), slowest(costs=COSTS, net=net)), (6, [("m",), ("s",)]))
        self.assertEqual(least_moves(bound=5, costs=COSTS, net=net), {("m",): 1, ("s",): 0})
        self.assertEqual(least_period(costs=COSTS, net=net), 5)
        self.assertIsNone(bar_for(bound=5, costs=COSTS, net=net))
        self.assertIs(is_bar(bound=4, value=[(out("m"), ())], costs=COSTS, net=net), True)

    def test_nets_without_chains(self):
        for net in (Net((), (), (), ()), net_of("x", {"d": "delay 1", "k": "const 2"}, {"d.in": x()}, {"o": out("d")})):
            self.assertEqual(self.check_period(net, COSTS), 0)
            self.assertEqual(least_period(net, costs=COSTS), 0)
            for bound in (0, 1, 10 ** 20):
                self.assertEqual(least_moves(net, costs=COSTS, bound=bound), {})
                self.assertIsNone(bar_for(net, costs=COSTS, bound=bound))

    def test_parts_that_cost_nothing(self):
        net = pipeline(["add", "sub"], [0, 0, 0])
        self.assertEqual(self.check_period(net, FREE), 0)
        self.assertNotEqual(slowest(net, costs=FREE), [])
        self.assertEqual(least_moves(net, costs=FREE, bound=0), {("paa",): 0, ("pab",): 0})
        self.assertEqual(least_period(net, costs=FREE), 0)

    def test_chains_end_at_delays_and_begin_at_consts(self):
        net = net_of("x", {"k": "const 2", "a": "mul", "b": "mul", "d": "delay 0", "c": "divide", "e": "sub"}, {
            "a.a": out("k"), "a.b": x(), "b.a": out("a"), "b.b": out("k"), "d.in": out("b"), "c.a": out("d"),
            "c.b": x(), "e.a": out("c", "rest"), "e.b": out("c", "quotient")}, {"o": out("e")})
        self.assertEqual(self.check_period(net, COSTS), 10)
        self.assertEqual(slowest(net, costs={**COSTS, "divide": 10}), [("c",), ("e",)])

    def test_each_word_has_its_cost(self):
        costs = {word: 100 + k for k, word in enumerate(RULES)}
        for word in RULES:
            ports = movecheck.PORTS[word]
            net = net_of("x", {"p": word}, {f"p.{port}": x() for port in ports[0]}, {"o": out("p", ports[1][0])})
            self.assertEqual(self.check_period(net, costs), costs[word])
            self.assertEqual(least_period(net, costs=costs), costs[word])

    def test_a_long_chain_of_parts(self):
        net = pipeline(["add"] * 48, [0] * 49)
        self.assertEqual(self.check_period(net, COSTS), 48)
        self.assertEqual(len(slowest(net, costs=COSTS)), 48)
        self.assertEqual(self.check_period(net, {**COSTS, "add": 1000}), 48000)

    def test_random_nets(self):
        chance = random.Random(81)
        for _ in range(200):
            net = random_line_net(chance, chance.randrange(9), chance.randrange(6), WORDS)
            if net is not None:
                self.check_period(net, {word: chance.randrange(5) for word in RULES})

    def test_delay_rings(self):
        net = net_of("x", {"r": "delay 1", "a": "add"}, {"r.in": out("r"), "a.a": x(), "a.b": x()}, {"o": out("a")})
        for call in (period, slowest, least_period):
            self.assertEqual(self.raised(DelayRing, call, net, costs=COSTS), {})
        for call in (least_moves, bar_for):
            self.assertEqual(self.raised(DelayRing, call, net, costs=COSTS, bound=5), {})
        for value in (None, [], [(out("a"), ())], deep_value(50)):
            self.assertEqual(self.raised(DelayRing, is_bar, net, value, costs=COSTS, bound=0), {})


class LeastMovesTest(PeriodsCase):
    def test_bounds_of_a_pipeline(self):
        net = pipeline(["mul", "add", "mul", "add"], [3, 0, 0, 0, 0])
        for bound, expected in ((12, [0, 0, 0, 0]), (11, [1, 0, 0, 0]), (7, [1, 0, 0, 0]), (6, [1, 1, 0, 0]),
                                (5, [3, 2, 1, 0])):
            self.assertTrue(self.check_bound(net, COSTS, bound))
            self.assertEqual(list(least_moves(net, costs=COSTS, bound=bound).values()), expected)
        self.assertFalse(self.check_bound(net, COSTS, 4))
        self.assertEqual(least_period(net, costs=COSTS), 5)
        self.assertFalse(self.check_bound(pipeline(["mul", "add", "mul", "add"], [2, 0, 0, 0, 0]), COSTS, 5))

    def test_outputs_give_no_delays(self):
        # Parts are only moved ahead, so that the delays behind the last part are of no use.
        net = pipeline(["mul", "add"], [0, 0, 5])
        self.assertEqual(least_period(net, costs=COSTS), 6)
        self.assertFalse(self.check_bound(net, COSTS, 5))
        (first, second), bound = movecheck.movable(net), 5
        for bar in ([(out("paa"), (((second), "a"),)), (x(), ((first, "a"),))],):
            self.assertIs(movecheck.judge_bar(net, bar, COSTS, bound), True)
            self.assertIs(is_bar(net, bar, costs=COSTS, bound=bound), True)

    def test_loops(self):
        net = loop(["mul", "add", "mul"], [1, 0, 0])
        self.assertEqual(least_period(net, costs=COSTS), 11)
        net = loop(["mul", "add", "mul"], [2, 0, 0])
        self.assertEqual(least_period(net, costs=COSTS), 6)
        self.assertEqual(list(least_moves(net, costs=COSTS, bound=6).values()), [1, 0, 0])
        net = loop(["mul", "add", "mul"], [3, 0, 0])
        self.assertEqual((period(net, costs=COSTS), least_period(net, costs=COSTS)), (11, 5))
        self.assertEqual(list(least_moves(net, costs=COSTS, bound=5).values()), [2, 1, 0])
        for delays in itertools.product(range(3), repeat=3):
            if any(delays):
                for bound in range(12):
                    self.check_bound(loop(["mul", "add", "sub"], delays), COSTS, bound)

    def test_as_many_moves_as_there_are_parts(self):
        net = pipeline(["add"] * 48, [48] + [0] * 48)
        moves = least_moves(net, costs=COSTS, bound=1)
        self.assertEqual(list(moves.values()), list(range(47, -1, -1)))
        self.assertTrue(are_good(net, moves))
        self.assertEqual(period(moved_net(net, moves), costs=COSTS), 1)
        self.assertEqual(least_period(net, costs=COSTS), 1)
        fewer = pipeline(["add"] * 48, [46] + [0] * 48)
        self.assertTrue(self.check_bound(fewer, COSTS, 2))
        self.assertFalse(self.check_bound(fewer, COSTS, 1))

    def test_all_moves_of_small_nets(self):
        chance, moved, barred = random.Random(82), 0, 0
        for _ in range(400):
            net = wide_net(chance, chance.randrange(1, 5), chance.randrange(7))
            costs = {word: chance.randrange(4) for word in RULES}
            choices = [(moves, movecheck.period_moved(net, moves, costs)) for moves in movecheck.all_good(net, 4)]
            for bound in range(movecheck.period(net, costs) + 2):
                expected = movecheck.least_of([moves for moves, reached in choices if reached <= bound])
                self.assertEqual(least_moves(net, costs=costs, bound=bound), expected)
                self.assertIs(self.check_bound(net, costs, bound), expected is not None)
                moved += expected is not None and any(expected.values())
                barred += expected is None
            self.assertEqual(least_period(net, costs=costs), min(reached for _, reached in choices))
        self.assertGreater(min(moved, barred), 60)

    def test_large_nets(self):
        chance, moved = random.Random(83), 0
        for rules, delays in ((48, 0), (48, 12), (48, 40), (48, 90), (30, 18), (24, 24), (46, 60), (48, 150)):
            net = wide_net(chance, rules, delays)
            costs = {word: chance.randrange(1001) for word in RULES}
            least = least_period(net, costs=costs)
            self.assertTrue(self.check_bound(net, costs, least))
            self.assertFalse(self.check_bound(net, costs, least - 1))
            greatest = period(net, costs=costs)
            for bound in (0, (least + greatest) // 2, greatest - 1, greatest, 10 ** 30):
                self.assertIs(self.check_bound(net, costs, bound), bound >= least)
            moves = least_moves(net, costs=costs, bound=least)
            self.assertEqual(period(moved_net(net, moves), costs=costs), least)
            moved += any(moves.values())
        self.assertGreater(moved, 2)

    def test_greater_bounds_need_no_more_moves(self):
        chance = random.Random(84)
        for _ in range(20):
            net = wide_net(chance, 12, 10)
            costs = {word: chance.randrange(8) for word in RULES}
            before = None
            for bound in range(least_period(net, costs=costs), period(net, costs=costs) + 1):
                moves = least_moves(net, costs=costs, bound=bound)
                self.assertTrue(before is None or all(moves[path] <= before[path] for path in moves))
                before = moves

    def test_what_is_told_is_new_and_what_is_given_stays(self):
        net, costs = document_net(), dict(COSTS)
        for call in (least_moves, bar_for):
            for bound in (4, 5):
                told = call(net, costs=costs, bound=bound)
                if told:
                    told.clear()
                    self.assertTrue(call(net, costs=costs, bound=bound))
        slowest(net, costs=costs).clear()
        self.assertEqual(slowest(net, costs=costs), [("m",), ("s",)])
        self.assertEqual(costs, COSTS)

    def test_functions_asked_in_turns(self):
        nets = [pipeline(["mul", "add", "mul"], [many, 0, 0, 0]) for many in range(4)]
        alone = [(least_period(net, costs=COSTS), least_moves(net, costs=COSTS, bound=6)) for net in nets]
        for one, other in itertools.permutations(range(4), 2):
            self.assertEqual(least_period(nets[one], costs=COSTS), alone[one][0])
            self.assertEqual(least_moves(nets[other], costs=COSTS, bound=6), alone[other][1])


class BarTest(PeriodsCase):
    def test_any_value(self):
        net = document_net()
        for value in (*ODD_VALUES, deep_value(50), [None], [()], [(out("m"),)], [(out("m"), (), ())], [(out("m"), [])],
                      [[out("m"), ()]], ((out("m"), ()),), {0: (out("m"), ())}, [(out("d"), ())], [(x(), ())],
                      [(out("m", "rest"), ())], [(out("z"), ())], [(("m", "out"), ())], [(out("s"), ())],
                      [(out("m"), (out("s"),))], [(out("m"), ((("d",), "in"),))], [(["m"], ())], [((["m"], "out"), ())],
                      [(out("m"), ([("s",), "a"],))], [deep_value(48)], [(out("m"), deep_value(47))]):
            self.assertIs(is_bar(net, value, costs=COSTS, bound=4), False, value)
            self.assertIs(movecheck.judge_bar(net, value, COSTS, 4), False, value)

    def test_variants_of_bars(self):
        judged = {True: 0, False: 0}
        nets = [(document_net(), 4), (pipeline(["mul", "add", "mul"], [1, 0, 0, 0]), 5), (loop(["mul", "add"], [1, 0]), 5),
                (pipeline(["divide", "sub"], [0, 0, 1]), 9)]
        for net, bound in nets:
            bar = bar_for(net, costs=COSTS, bound=bound)
            for value in variants(bar):
                expected = movecheck.judge_bar(net, value, COSTS, bound)
                self.assertIs(is_bar(net, value, costs=COSTS, bound=bound), expected, value)
                judged[expected] += 1
            for other in (bound - 1, bound + 1, bound + 30):
                self.assertIs(is_bar(net, bar, costs=COSTS, bound=other), movecheck.judge_bar(net, bar, COSTS, other))
        self.assertGreater(min(judged.values()), 3)

    def test_lists_of_routes(self):
        chance, judged = random.Random(86), {True: 0, False: 0}
        for _ in range(120):
            net = random_line_net(chance, chance.randrange(1, 4), chance.randrange(4), WORDS)
            if net is None:
                continue
            costs, bound = {word: chance.randrange(4) for word in RULES}, chance.randrange(4)
            routes = list(movecheck.all_routes(net, 3))
            routes = chance.sample(routes, min(12, len(routes)))
            possible = least_moves(net, costs=costs, bound=bound) is not None
            for many in (1, 2, 3):
                for value in itertools.product(routes, repeat=many):
                    if many < 3 or chance.random() < 0.2:
                        expected = movecheck.judge_bar(net, list(value), costs, bound)
                        self.assertIs(is_bar(net, list(value), costs=costs, bound=bound), expected, value)
                        self.assertFalse(expected and possible)
                        judged[expected] += 1
        self.assertGreater(min(judged.values()), 60)

    def test_routes_through_outputs_and_inputs_do_not_join(self):
        net = net_of("x", {"a": "mul"}, {"a.a": x(), "a.b": x()}, {"o": out("a"), "p": x()})
        into, onto = (x(), ((("a",), "a"),)), (out("a"), (((), "o"),))
        for value, expected in (([onto, into], True), ([into, onto], False), ([into, into], False), ([onto, onto], False),
                                ([(x(), ((("a",), "a"), ((), "o")))], True), ([(x(), (((), "p"),)), onto, into], False),
                                ([onto, into, (x(), (((), "p"),))], False), ([(x(), (((), "p"), (("a",), "a")))], False),
                                ([(x(), (((), "p"), ((), "p")))], False), ([(x(), (((), "o"),))], False)):
            self.assertIs(is_bar(net, value, costs=COSTS, bound=4), expected, value)
            self.assertIs(movecheck.judge_bar(net, value, COSTS, 4), expected, value)

    def test_starts_are_the_very_outputs(self):
        net = net_of("xy", {"q": "divide", "s": "add"}, {"q.a": x(), "q.b": x("y"), "s.a": out("q", "rest"),
                                                         "s.b": out("q", "quotient")}, {"o": out("s")})
        for port, target, expected in (("rest", "a", True), ("rest", "b", False), ("quotient", "b", True),
                                       ("quotient", "a", False)):
            value = [(out("q", port), ((("s",), target),)), (x(), ((("q",), "a"),))]
            self.assertIs(is_bar(net, value, costs=COSTS, bound=9), expected)
        # What comes behind the first target only must begin at the part.
        value = [(x(), ((("q",), "b"), (("s",), "a")))]
        self.assertIs(is_bar(net, value, costs=COSTS, bound=9), False)
        value = [(x("y"), ((("q",), "b"), (("s",), "a")))]
        self.assertIs(is_bar(net, value, costs=COSTS, bound=9), True)
        self.assertIs(is_bar(net, value, costs=COSTS, bound=10), False)

    def test_parts_count_each_time_that_they_come(self):
        net = loop(["add"], [1])
        ring = (("pa",), "a")
        self.assertEqual(movecheck.judge_route(net, (out("pa"), (ring, ring)), COSTS, 2), (("pa",), ("pa",), 1))
        # Three times the part cost 3, over two delays.
        for bound, expected in ((0, True), (1, False), (2, False)):
            value = [(out("pa"), (ring, ring)), (out("pa"), ()), (out("pa"), ())]
            self.assertIs(is_bar(net, value, costs=COSTS, bound=bound), expected)
        self.assertIs(is_bar(net, value[:2], costs=COSTS, bound=0), False)


if __name__ == "__main__":
    unittest.main()
