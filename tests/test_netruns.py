"""Runs of nets: point 36."""

import itertools
import random
import unittest

import movecheck
import netcheck
import smallcheck
from netkit import RaisedCase, delay_line, net_of, out, pipeline, random_line_net, x
from samples import ODD_VALUES, deep_value
from stepblocks.errors import BadValue, DelayRing, NotGood, UnknownMark, UnknownPart, WrongCount
from stepblocks.least import least_net
from stepblocks.lines import are_good, line_of, moved_net
from stepblocks.netruns import NetRun
from stepblocks.nets import Net

TOP = 2 ** 32
WORDS = ("const 3", "add", "sub", "mul", "less", "equal", "pick", "divide")


def document_net():
    return net_of("x", {"d": "delay 3", "k": "const 4", "s": "add"},
                  {"d.in": x(), "s.a": out("d"), "s.b": out("k")}, {"o": out("s")})


class Plain:
    """A run that only keeps the net that it was made of, and the rows so far."""

    def __init__(self, net):
        self.net, self.rows, self.marks = net, [], []

    def go(self, row):
        self.rows.append(row)
        return netcheck.answers_of(self.net.inputs, self.net.outputs, self.net.parts, self.net.wires, self.rows)[-1]

    def mark(self):
        self.marks.append(list(self.rows))
        return len(self.marks) - 1

    def back(self, number):
        self.rows = list(self.marks[number])
        del self.marks[number + 1:]


class RunCase(RaisedCase):
    def told(self, run):
        net = run.now()
        return net.inputs, net.outputs, net.parts, net.wires, run.leads()

    def refused(self, run, kind, expected, call, *args):
        """Check that a call is refused with an error and changes nothing."""
        before = self.told(run)
        self.assertEqual(self.raised(kind, call, *args), expected)
        self.assertEqual(self.told(run), before)


class GoTest(RunCase):
    def test_example_of_the_document(self):
        run = NetRun(document_net())
        first = run.go((5,))
        self.assertIsNone(run.lead(("s",)))
        self.assertEqual([first, run.go((6,)), run.leads()], [(7,), (9,), {("s",): 1}])

    def test_arguments_by_name(self):
        run = NetRun(net=document_net())
        self.assertEqual(run.go(row=(5,)), (7,))
        run.lead(path=("s",))
        self.assertEqual(run.mark(), 0)
        self.assertIsNone(run.back(number=0))

    def test_delays_of_now_begin_with_what_they_hold(self):
        net = net_of("x", {"d": "delay 1", "e": "delay 2", "k": "const 7", "s": "sub"}, {
            "d.in": x(), "e.in": out("d"), "s.a": out("e"), "s.b": out("k")}, {"o": out("s"), "p": out("e")})
        run = NetRun(net)
        self.assertTrue(run.now() == net)
        self.assertEqual(run.go((5,)), ((2 - 7) % TOP, 2))
        self.assertEqual(run.now().parts, ((("d",), "delay 5"), (("e",), "delay 1"), (("k",), "const 7"), (("s",), "sub")))
        self.assertEqual((run.now().inputs, run.now().outputs, run.now().wires), (net.inputs, net.outputs, net.wires))
        self.assertIsInstance(run.now(), Net)
        self.assertEqual(run.go((TOP - 1,)), ((1 - 7) % TOP, 1))
        self.assertEqual(run.now()([(0,), (0,), (0,)]), [((5 - 7) % TOP, 5), ((-8) % TOP, TOP - 1), ((-7) % TOP, 0)])

    def test_nets_that_were_told_stay(self):
        run = NetRun(document_net())
        kept = [run.now()]
        copies = [document_net()]
        for k in range(3):
            run.go((k,))
            kept.append(run.now())
            copies.append(smallcheck.with_state(document_net(), {("d",): k}))
        run.lead(("s",))
        run.shrink()
        for one, other in zip(kept, copies):
            self.assertTrue(one == other)

    def test_the_net_that_was_given_stays(self):
        net = document_net()
        run, other = NetRun(net), NetRun(net)
        run.go((9,))
        run.lead(("s",))
        self.assertTrue(net == document_net())
        self.assertTrue(other.now() == net)
        self.assertEqual((other.leads(), other.go((1,))), ({("s",): 0}, (7,)))

    def test_wrong_rows(self):
        run = NetRun(net_of("xy", {"d": "delay 1"}, {"d.in": x()}, {"o": out("d")}))
        for row in ((), (1,), (1, 2, 3), (None, None, None)):
            self.refused(run, WrongCount, {"count": 2}, run.go, row)
        for value in (-1, TOP, True, None, "1", 1.0, [1], (1,)):
            self.refused(run, BadValue, {"name": "x"}, run.go, (value, value))
            self.refused(run, BadValue, {"name": "y"}, run.go, (0, value))
        self.assertEqual(run.go((TOP - 1, 0)), (1,))

    def test_nets_without_ports_and_parts(self):
        run = NetRun(Net((), (), (), ()))
        self.assertEqual((run.go(()), run.leads(), run.mark()), ((), {}, 0))
        run.shrink()
        self.assertTrue(run.now() == Net((), (), (), ()))

    def test_wide_nets(self):
        parts, wires, last = delay_line(2000, x())
        run = NetRun(net_of("x", {**parts, "s": "add"}, {**wires, "s.a": last, "s.b": last}, {"o": out("s")}))
        for k in range(3):
            self.assertEqual(run.go((k,)), (2,))
        run.lead(("s",))
        self.assertEqual([run.go((k,)) for k in range(3)], [(2,)] * 3)
        run.shrink()
        self.assertEqual([run.go((k,)) for k in range(3)], [(2,)] * 3)


class LeadTest(RunCase):
    def test_unknown_parts(self):
        run = NetRun(document_net())
        for value in (*ODD_VALUES, deep_value(50), ("d",), ("k",), ("z",), (), ("s", "s"), "s", ["s"], (("s",),), ("s", 0),
                      (("s",), "out"), ((), "o")):
            self.refused(run, UnknownPart, {"path": value}, run.lead, value)

    def test_not_good(self):
        run = NetRun(document_net())
        run.lead(("s",))
        self.refused(run, NotGood, {}, run.lead, ("s",))
        self.assertEqual(run.leads(), {("s",): 1})

    def test_errors_in_their_order(self):
        net = net_of("x", {"r": "delay 1", "s": "add"}, {"r.in": out("r"), "s.a": x(), "s.b": x()}, {"o": out("s")})
        run = NetRun(net)
        for value in (("r",), ("z",), None, []):
            self.refused(run, UnknownPart, {"path": value}, run.lead, value)
        self.refused(run, DelayRing, {}, run.lead, ("s",))
        self.assertEqual((run.go((4,)), run.mark()), ((8,), 0))
        # The ring is steady, and nothing needs it.
        run.shrink()
        self.refused(run, NotGood, {}, run.lead, ("s",))

    def test_a_part_on_and_on(self):
        net = net_of("", {"d": "delay 1", "k": "const 3", "s": "mul"}, {"d.in": out("s"), "s.a": out("d"), "s.b": out("k")},
                     {"o": out("d")})
        run, expected = NetRun(net), Plain(net)
        for k in range(130):
            run.lead(("s",))
            if k % 10 == 0:
                self.assertEqual(run.go(()), expected.go(()))
        self.assertEqual(run.leads(), {("s",): 130})

    def test_leads_counts_and_is_new(self):
        net = pipeline(["add", "sub", "mul"], [3, 0, 0, 0])
        run = NetRun(net)
        paths = movecheck.movable(net)
        for k in (0, 1, 2, 0, 1, 0):
            run.lead(paths[k])
        self.assertEqual(run.leads(), dict(zip(paths, (3, 2, 1))))
        self.assertEqual(list(run.leads()), paths)
        run.leads().clear()
        run.leads()[paths[0]] = 9
        self.assertEqual(run.leads(), dict(zip(paths, (3, 2, 1))))
        self.refused(run, NotGood, {}, run.lead, paths[0])
        self.assertEqual(line_of(run.now(), ((paths[2]), "a")), line_of(moved_net(net, run.leads()), ((paths[2]), "a")))

    def test_the_lines_are_those_of_the_moved_net(self):
        chance, found = random.Random(121), 0
        while found < 150:
            net = random_line_net(chance, chance.randrange(1, 4), chance.randrange(1, 6), WORDS)
            if net is None:
                continue
            run = NetRun(net)
            for _ in range(6):
                now, path = run.now(), chance.choice([*movecheck.movable(net), None])
                if path is None:
                    run.go(tuple(chance.randrange(4) for _ in net.inputs))
                    continue
                moves = {other: int(other == path) for other in movecheck.movable(now)}
                if movecheck.judge_moves(now, moves):
                    before = run.leads()
                    run.lead(path)
                    movecheck.judge_moved(now, moves, run.now(), chance)
                    self.assertEqual(run.leads(), {**before, path: before[path] + 1})
                    found += 1
                else:
                    self.refused(run, NotGood, {}, run.lead, path)


class ShrinkTest(RunCase):
    def test_parts_count_as_not_moved(self):
        net = net_of("x", {"d": "delay 1", "e": "delay 1", "s": "add", "t": "add", "u": "sub"}, {
            "d.in": x(), "e.in": x(), "s.a": out("d"), "s.b": out("d"), "t.a": out("e"), "t.b": out("e"),
            "u.a": out("s"), "u.b": out("t")}, {"o": out("u")})
        run = NetRun(net)
        run.lead(("s",))
        run.lead(("t",))
        self.assertEqual(run.leads(), {("s",): 1, ("t",): 1, ("u",): 0})
        self.assertIsNone(run.shrink())
        now = run.now()
        movecheck.judge_least(moved_net(net, {("s",): 1, ("t",): 1, ("u",): 0}), now)
        self.assertEqual(len(now), 3)
        self.assertEqual(run.leads(), {path: 0 for path in movecheck.movable(now)})
        self.assertEqual(len(run.leads()), 2)
        for path in (("s",), ("t",)):
            if path not in now:
                self.refused(run, UnknownPart, {"path": path}, run.lead, path)

    def test_what_is_held_makes_parts_alike(self):
        net = net_of("xy", {"d": "delay 1", "e": "delay 2", "s": "sub"}, {
            "d.in": x(), "e.in": x(), "s.a": out("d"), "s.b": out("e")}, {"o": out("s")})
        run = NetRun(net)
        run.shrink()
        self.assertEqual((len(run.now()), run.go((7, 0))), (3, (TOP - 1,)))
        run.shrink()
        self.assertEqual((len(run.now()), run.go((8, 0))), (2, (0,)))
        movecheck.judge_least(smallcheck.with_state(net, {("d",): 8, ("e",): 8}), run.now())

    def test_a_loop_that_becomes_steady(self):
        net = net_of("x", {"d": "delay 1", "e": "delay 4"}, {"d.in": out("e"), "e.in": out("e")}, {"o": out("d")})
        run = NetRun(net)
        self.assertEqual(run.go((1,)), (1,))
        run.shrink()
        self.assertEqual([text for _, text in run.now().parts], ["const 4"])
        self.assertEqual(run.go((1,)), (4,))


class MarkTest(RunCase):
    def test_numbers(self):
        run = NetRun(document_net())
        self.assertEqual([run.mark() for _ in range(4)], [0, 1, 2, 3])
        run.back(2)
        self.assertEqual(run.mark(), 3)
        run.back(0)
        self.assertEqual([run.mark(), run.mark()], [1, 2])
        run.back(2)
        run.back(2)
        self.assertEqual(run.mark(), 3)

    def test_unknown_marks(self):
        run = NetRun(document_net())
        for value in (*ODD_VALUES, deep_value(50)):
            self.refused(run, UnknownMark, {"number": value}, run.back, value)
        for _ in range(3):
            run.mark()
        run.go((1,))
        for value in (*[value for value in ODD_VALUES if value not in (0, 1, 2)], True, False, -1, -3, 3, 10 ** 30, "0",
                      "1", (0,), [0], None, deep_value(50)):
            self.refused(run, UnknownMark, {"number": value}, run.back, value)
        run.back(1)
        self.refused(run, UnknownMark, {"number": 2}, run.back, 2)
        run.back(1)
        run.back(0)
        self.refused(run, UnknownMark, {"number": 1}, run.back, 1)

    def test_all_as_it_was(self):
        net = pipeline(["add", "mul"], [3, 0, 0])
        paths = movecheck.movable(net)
        run = NetRun(net)
        run.go((1,))
        run.lead(paths[0])
        run.mark()
        before = self.told(run)
        run.lead(paths[0])
        run.lead(paths[1])
        run.go((2,))
        run.mark()
        between = self.told(run)
        run.shrink()
        run.go((3,))
        run.lead(movecheck.movable(run.now())[0])
        run.back(1)
        self.assertEqual(self.told(run), between)
        run.go((5,))
        run.back(1)
        self.assertEqual(self.told(run), between)
        run.back(0)
        self.assertEqual(self.told(run), before)
        run.go((2,))
        run.back(0)
        self.assertEqual(self.told(run), before)

    def test_marks_of_runs_are_apart(self):
        run, other = NetRun(document_net()), NetRun(document_net())
        run.mark()
        self.assertEqual(self.raised(UnknownMark, other.back, 0), {"number": 0})
        self.assertEqual((run.mark(), other.mark()), (1, 0))


class RandomTest(RunCase):
    def test_it_answers_as_the_net_that_it_was_made_of(self):
        chance, counts = random.Random(122), {"lead": 0, "shrink": 0, "back": 0}
        for _ in range(200):
            net = random_line_net(chance, chance.randrange(1, 5), chance.randrange(1, 7), WORDS, back=0.6)
            if net is None:
                continue
            run, expected, leads = NetRun(net), Plain(net), []
            for _ in range(25):
                kind = chance.choice(("go", "go", "go", "lead", "lead", "lead", "shrink", "mark", "back"))
                if kind == "go":
                    row = tuple(chance.choice((0, 1, 2, TOP - 1)) for _ in net.inputs)
                    self.assertEqual(run.go(row), expected.go(row))
                elif kind == "lead" and movecheck.movable(run.now()):
                    now, path = run.now(), chance.choice(movecheck.movable(run.now()))
                    good = are_good(now, {other: int(other == path) for other in movecheck.movable(now)})
                    if good:
                        run.lead(path)
                        counts["lead"] += 1
                    else:
                        self.refused(run, NotGood, {}, run.lead, path)
                elif kind == "shrink" and chance.random() < 0.4:
                    now = run.now()
                    run.shrink()
                    counts["shrink"] += len(run.now()) < len(now)
                    self.assertEqual(len(run.now()), len(least_net(now)))
                    self.assertEqual(run.leads(), {path: 0 for path in movecheck.movable(run.now())})
                elif kind == "mark":
                    self.assertEqual(run.mark(), expected.mark())
                    leads = leads[:len(expected.marks) - 1] + [self.told(run)]
                elif kind == "back" and expected.marks:
                    number = chance.randrange(len(expected.marks))
                    run.back(number)
                    expected.back(number)
                    counts["back"] += 1
                    self.assertEqual(self.told(run), leads[number])
        self.assertGreater(min(counts.values()), 50, counts)

    def test_runs_asked_in_turns(self):
        chance = random.Random(123)
        nets = [pipeline(["add", "sub"], [2, k, 0]) for k in range(3)]
        runs, plain = [NetRun(net) for net in nets], [Plain(net) for net in nets]
        for k in itertools.chain(range(3), range(3), [chance.randrange(3) for _ in range(40)]):
            row = (chance.randrange(9),)
            self.assertEqual(runs[k].go(row), plain[k].go(row))
            if chance.random() < 0.1 and runs[k].leads()[("paa",)] < 2:
                runs[k].lead(("paa",))


if __name__ == "__main__":
    unittest.main()
