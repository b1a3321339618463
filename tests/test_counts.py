"""Delay counts and shares: point 31."""

import itertools
import random
import unittest

import movecheck
from movecheck import COSTS
from netkit import net_of, out, pipeline, x
from samples import ODD_VALUES, deep_value, variants
from stepblocks.counts import count_delays, fewest_delays, shares_for, shown_by
from stepblocks.errors import BlockError, DelayRing
from stepblocks.lines import moved_net
from stepblocks.nets import Net
from stepblocks.periods import least_period, period
from test_periods import RULES, document_net, loop, wide_net


def count_moved(net, moves):
    """Return the delay count of the net moved by moves, from its lines alone."""
    total = 0
    for target in movecheck.targets_of(net):
        head, values = movecheck.line(net, target)
        if not movecheck.is_const_head(net, head):
            total += len(values) - moves.get(target[0], 0) + moves.get(head[0], 0)
    return total


class CountsCase(unittest.TestCase):
    def check(self, net, costs, bound):
        """Check that shares show the delay count to which moves lead; return the moves."""
        moves = fewest_delays(net, costs=costs, bound=bound)
        shares = shares_for(net, costs=costs, bound=bound)
        if moves is None:
            self.assertIsNone(shares)
            self.assertGreater(least_period(net, costs=costs), bound)
            return None
        self.assertTrue(movecheck.judge_moves(net, moves))
        self.assertLessEqual(movecheck.period_moved(net, moves, costs), bound)
        self.assertEqual(movecheck.judge_shares(net, shares, costs, bound), count_moved(net, moves))
        self.assertEqual(shown_by(net, shares, costs=costs, bound=bound), count_moved(net, moves))
        # The least of those with this delay count: less often at some parts alone would be worse.
        for path in moves:
            if moves[path]:
                fewer = {**moves, path: moves[path] - 1}
                self.assertFalse(movecheck.judge_moves(net, fewer) and movecheck.period_moved(
                    net, fewer, costs) <= bound and count_moved(net, fewer) <= count_moved(net, moves))
        return moves


class CountTest(CountsCase):
    def test_example_of_the_document(self):
        net = document_net()
        self.assertEqual(count_delays(net), 3)
        self.assertEqual(fewest_delays(net, costs=COSTS, bound=6), {("m",): 1, ("s",): 1})
        self.assertEqual(fewest_delays(net, costs=COSTS, bound=5), {("m",): 1, ("s",): 0})
        value = [(2, (x(), ((("m",), "a"),))), (1, (out("m"), ((("s",), "a"),)))]
        self.assertEqual(shown_by(net, value, costs=COSTS, bound=5), 2)

    def test_line_by_line(self):
        net = net_of("x", {"k": "const 1", "a": "delay 1", "b": "delay 2", "c": "delay 1", "s": "pick", "u": "delay 0"}, {
            "a.in": x(), "b.in": out("a"), "c.in": out("k"), "s.c": out("b"), "s.a": out("a"), "s.b": out("c"),
            "u.in": out("b")}, {"o": out("b"), "p": out("c"), "q": out("s")})
        self.assertEqual(count_delays(net), 2 + 1 + 2)
        self.assertEqual(count_delays(net=net), movecheck.count_delays(net))

    def test_nothing_at_all(self):
        net = Net((), (), (), ())
        self.assertEqual(count_delays(net), 0)
        self.assertEqual(fewest_delays(net, costs=COSTS, bound=0), {})
        self.assertEqual(shares_for(net, costs=COSTS, bound=0), [])
        self.assertEqual(shown_by(net, [], costs=COSTS, bound=0), 0)

    def test_arguments_by_name_in_any_order(self):
        net = document_net()
        self.assertEqual(fewest_delays(bound=5, net=net, costs=COSTS), {("m",): 1, ("s",): 0})
        shares = shares_for(bound=5, costs=COSTS, net=net)
        self.assertEqual(shown_by(costs=COSTS, bound=5, value=shares, net=net), 2)

    def test_delay_rings(self):
        net = net_of("x", {"r": "delay 1", "a": "add"}, {"r.in": out("r"), "a.a": x(), "a.b": x()}, {"o": out("a")})
        calls = [lambda: count_delays(net), lambda: fewest_delays(net, costs=COSTS, bound=0),
                 lambda: shares_for(net, costs=COSTS, bound=9)]
        calls += [lambda value=value: shown_by(net, value, costs=COSTS, bound=0) for value in (None, [], deep_value(50))]
        for call in calls:
            with self.assertRaises(DelayRing) as caught:
                call()
            self.assertIsInstance(caught.exception, BlockError)

    def test_bounds_that_no_moves_reach(self):
        net = document_net()
        for bound in range(5):
            self.assertIsNone(fewest_delays(net, costs=COSTS, bound=bound))
            self.assertIsNone(shares_for(net, costs=COSTS, bound=bound))


class FewestTest(CountsCase):
    def test_two_lines_become_one(self):
        net = net_of("xy", {"a": "delay 1", "b": "delay 2", "s": "add"},
                     {"a.in": x(), "b.in": x("y"), "s.a": out("a"), "s.b": out("b")}, {"o": out("s")})
        self.assertEqual(self.check(net, COSTS, 1), {("s",): 1})
        self.assertEqual(count_delays(moved_net(net, {("s",): 1})), 1)

    def test_the_least_ones(self):
        # Moving the part changes nothing of the count.
        net = pipeline(["add"], [3, 0])
        self.assertEqual(self.check(net, COSTS, 1), {("paa",): 3})
        net = net_of("x", {"a": "delay 1", "s": "mul", "k": "const 2"}, {"a.in": x(), "s.a": out("a"), "s.b": out("k")},
                     {"o": out("s")})
        self.assertEqual(self.check(net, COSTS, 5), {("s",): 0})

    def test_outputs_that_are_used_often(self):
        net = net_of("x", {"a": "delay 1", "s": "mul"}, {"a.in": x(), "s.a": out("a"), "s.b": out("a")},
                     {name: out("s") for name in "opqr"})
        self.assertEqual(self.check(net, COSTS, 5), {("s",): 0})
        self.assertEqual(shares_for(net, costs=COSTS, bound=5), [])

    def test_parts_that_nothing_uses(self):
        net = net_of("xy", {"a": "delay 1", "b": "delay 2", "c": "delay 3", "s": "add"}, {
            "a.in": x(), "b.in": out("a"), "c.in": x("y"), "s.a": out("b"), "s.b": out("c")}, {"o": x()})
        self.assertEqual(self.check(net, COSTS, 1), {("s",): 1})
        self.assertEqual(count_delays(moved_net(net, {("s",): 1})), 1)

    def test_loops_without_inputs(self):
        for delays in itertools.product(range(3), repeat=3):
            if any(delays):
                for bound in range(12):
                    net = loop(["mul", "add", "sub"], delays)
                    self.check(net, COSTS, bound)

    def test_a_bound_below_a_part(self):
        # The only shares that show the least count end at an output, over a route that costs too much.
        net = net_of("x", {"a": "delay 1", "b": "delay 1", "m": "mul", "s": "add"}, {
            "a.in": x(), "b.in": out("a"), "m.a": out("b"), "m.b": out("b"), "s.a": out("m"), "s.b": out("m")},
            {"o": out("s")})
        for bound in (5, 6):
            self.check(net, COSTS, bound)

    def test_against_all_moves(self):
        chance, moved, tight = random.Random(91), 0, 0
        for _ in range(400):
            net = wide_net(chance, chance.randrange(1, 4), chance.randrange(5))
            costs = {word: chance.randrange(4) for word in RULES}
            choices = [(moves, movecheck.period_moved(net, moves, costs)) for moves in movecheck.all_good(net, 8)]
            for bound in range(min(reached for _, reached in choices) - 1, movecheck.period(net, costs) + 1):
                right = [moves for moves, reached in choices if reached <= bound]
                fewest = min([count_moved(net, moves) for moves in right], default=None)
                expected = movecheck.least_of([moves for moves in right if count_moved(net, moves) == fewest])
                self.assertEqual(self.check(net, costs, bound), expected)
                moved += expected is not None and any(expected.values())
                loose = expected is not None and fewest_delays(net, costs=costs, bound=10 ** 6)
                tight += bool(loose) and count_moved(net, loose) < fewest
        self.assertGreater(min(moved, tight), 30, (moved, tight))

    def test_large_nets(self):
        chance, moved = random.Random(92), 0
        for rules, delays in ((48, 0), (24, 24), (30, 18), (34, 14), (16, 32), (12, 36), (40, 8)):
            net = wide_net(chance, rules, delays)
            costs = {word: chance.randrange(1001) for word in RULES}
            least, greatest = least_period(net, costs=costs), period(net, costs=costs)
            for bound in (0, least - 1, least, (least + greatest) // 2, greatest, 10 ** 30):
                moves = self.check(net, costs, bound)
                self.assertIs(moves is None, bound < least)
                if moves is not None:
                    after = moved_net(net, moves)
                    self.assertEqual(count_delays(after), count_moved(net, moves))
                    self.assertLessEqual(period(after, costs=costs), bound)
                    moved += any(moves.values())
        self.assertGreater(moved, 8)

    def test_nets_of_all_sizes(self):
        chance = random.Random(94)
        for _ in range(120):
            net = wide_net(chance, chance.randrange(3, 30), chance.randrange(30))
            costs = {word: chance.randrange(6) for word in RULES}
            least = least_period(net, costs=costs)
            for bound in (least, least + 1, least + 3, 10 ** 6):
                moves, shares = [call(net, costs=costs, bound=bound) for call in (fewest_delays, shares_for)]
                self.assertEqual(shown_by(net, shares, costs=costs, bound=bound), count_moved(net, moves))

    def test_many_delays_on_one_line(self):
        net = pipeline(["add"] * 8, [40] + [0] * 8)
        self.assertEqual(set(self.check(net, COSTS, 8).values()), {40})
        self.assertEqual(list(self.check(net, COSTS, 1).values()), [40] + list(range(39, 32, -1)))

    def test_what_is_told_is_new_and_what_is_given_stays(self):
        net, costs = document_net(), dict(COSTS)
        for call in (fewest_delays, shares_for):
            told = call(net, costs=costs, bound=5)
            kept = told.copy()
            told.clear()
            self.assertEqual(call(net, costs=costs, bound=5), kept)
        value = shares_for(net, costs=costs, bound=5)
        kept = list(value)
        shown_by(net, value, costs=costs, bound=5)
        self.assertEqual((value, costs), (kept, COSTS))

    def test_kinds_of_values(self):
        for amount, route in shares_for(document_net(), costs=COSTS, bound=5):
            self.assertEqual((type(amount), type(route), type(route[1])), (int, tuple, tuple))

    def test_functions_asked_in_turns(self):
        nets = [pipeline(["mul", "add", "mul"], [many, 0, 1, 0]) for many in range(4)]
        alone = [(fewest_delays(net, costs=COSTS, bound=6), shares_for(net, costs=COSTS, bound=6)) for net in nets]
        for one, other in itertools.permutations(range(4), 2):
            self.assertEqual(fewest_delays(nets[one], costs=COSTS, bound=6), alone[one][0])
            self.assertEqual(shares_for(nets[other], costs=COSTS, bound=6), alone[other][1])


class SharesTest(CountsCase):
    def test_any_value(self):
        net = document_net()
        route = (x(), ((("m",), "a"),))
        for value in (*ODD_VALUES, deep_value(50), [None], [()], [(1,)], [(1, route, 1)], [[1, route]], ((1, route),),
                      {0: (1, route)}, [(0, route)], [(-1, route)], [(True, route)], [("1", route)], [(None, route)],
                      [(1, list(route))], [(1, None)], [(1, deep_value(47))], [([1], route)], [deep_value(48)]):
            if value != [] or type(value) is not list:
                self.assertIsNone(shown_by(net, value, costs=COSTS, bound=5), value)
            self.assertEqual(shown_by(net, value, costs=COSTS, bound=5),
                             movecheck.judge_shares(net, value, COSTS, 5), value)

    def test_right_shares_and_odd_ones(self):
        net = document_net()
        into, onto = (x(), ((("m",), "a"),)), (out("m"), ((("s",), "a"),))
        right = [(2, into), (1, onto)]
        for more, expected in (([], 2), ([(1, (out("m"), ()))], 2), ([(7, (out("s"), ()))], 2), ([(0, into)], None),
                               ([(-1, (out("s"), ()))], None), ([(True, (out("s"), ()))], None), ([(1, (x(), ()))], None),
                               ([[1, (out("s"), ())]], None), ([(1, [out("s"), ()])], None), ([(1, (out("s"), []))], None),
                               ([(1, (out("d"), ()))], None), ([(1, (out("s", "a"), ()))], None), ([None], None)):
            for value in (right + more, more + right):
                self.assertEqual(shown_by(net, value, costs=COSTS, bound=5), expected, more)
                self.assertEqual(movecheck.judge_shares(net, value, COSTS, 5), expected, more)

    def test_variants_of_shares(self):
        judged = {True: 0, False: 0}
        nets = [(document_net(), 5), (document_net(), 6), (pipeline(["mul", "add", "mul"], [1, 0, 1, 0]), 6),
                (loop(["mul", "add"], [1, 1]), 6), (pipeline(["divide", "sub"], [1, 0, 1]), 9)]
        for net, bound in nets:
            shares = shares_for(net, costs=COSTS, bound=bound)
            for value in variants(shares):
                expected = movecheck.judge_shares(net, value, COSTS, bound)
                self.assertEqual(shown_by(net, value, costs=COSTS, bound=bound), expected, value)
                judged[expected is not None] += 1
            for other in (0, bound - 1, bound + 1, bound + 30):
                self.assertEqual(shown_by(net, shares, costs=COSTS, bound=other),
                                 movecheck.judge_shares(net, shares, COSTS, other))
        self.assertGreater(min(judged.values()), 20)

    def test_large_amounts(self):
        net = document_net()
        value = [(10 ** 30, (out("m"), ())), (2, (x(), ((("m",), "a"),))), (1, (out("m"), ((("s",), "a"),)))]
        # A route without targets starts where it ends.
        self.assertEqual(shown_by(net, value, costs=COSTS, bound=4), movecheck.judge_shares(net, value, COSTS, 4))
        self.assertEqual(shown_by(net, value, costs=COSTS, bound=5), 2)

    def test_lists_of_shares(self):
        chance, judged, bounds = random.Random(93), {True: 0, False: 0}, 0
        for _ in range(250):
            net = wide_net(chance, chance.randrange(1, 4), chance.randrange(5))
            costs, bound = {word: chance.randrange(4) for word in RULES}, chance.randrange(6)
            routes = list(movecheck.all_routes(net, 3))
            moves = fewest_delays(net, costs=costs, bound=bound)
            for _ in range(40):
                value = [(chance.randrange(1, 4), route) for route in chance.sample(routes, chance.randrange(
                    min(5, len(routes) + 1)))]
                expected = movecheck.judge_shares(net, value, costs, bound)
                self.assertEqual(shown_by(net, value, costs=costs, bound=bound), expected)
                judged[expected is not None] += 1
                if expected is not None and moves is not None:
                    bounds += 1
                    self.assertLessEqual(expected, count_moved(net, moves))
        self.assertGreater(min(*judged.values(), bounds), 100)


if __name__ == "__main__":
    unittest.main()
