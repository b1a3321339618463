"""Runners and instants: points 5, 9 and 14 to 16."""

import itertools
import unittest

from samples import COUNTER, NESTED, ODD_VALUES, USER, chain_texts, diagrams_of, library_of, named, sized_library
from stepblocks.errors import (BadState, BadValue, BlockError, Given, InstantClosed, InstantOpen, NotGiven, TooLarge,
                               UnknownBlock, UnknownPort, WrongCount)
from stepblocks.library import Library
from stepblocks.machine import Instant, Runner

TOP = 2 ** 32 - 1
MIXED = """block mixed(a b c; s t u v)
  part d = delay 4
  part k = const 3
  part m = add
  part n = sub
  d.in <- n.out
  m.a <- c
  m.b <- a
  n.a <- b
  n.b <- m.out
  s <- m.out
  t <- d.out
  u <- n.out
  v <- b
end"""
NOT_VALUES = [value for value in ODD_VALUES if type(value) is not int or not 0 <= value <= TOP] + [1.0, b"1"]


class MachineCase(unittest.TestCase):
    def raised(self, kind, call, *args, **named_args):
        """Return the attributes of the error that a call raises."""
        with self.assertRaises(kind) as caught:
            call(*args, **named_args)
        self.assertIs(type(caught.exception), kind)
        self.assertIsInstance(caught.exception, BlockError)
        return vars(caught.exception)


class RunnerTest(MachineCase):
    def test_counter(self):
        runner = Runner(library_of(COUNTER), "counter")
        self.assertEqual((runner.name, runner.state, runner.instant), ("counter", {("old",): 0}, None))
        self.assertEqual(runner.step(3), (0, 3))
        self.assertEqual(runner.state, {("old",): 3})
        self.assertEqual(runner.step_row([4]), (3, 7))
        self.assertEqual(runner.step_row((TOP,)), (7, 6))
        self.assertEqual(runner.state, {("old",): 6})
        self.assertIsInstance(runner.step(0), tuple)

    def test_arguments_by_name(self):
        runner = Runner(name="counter", library=library_of(COUNTER))
        self.assertEqual(runner.step_row(values=[4]), (0, 4))
        self.assertEqual(list(runner.trace(rows=[[1]])), [(4, 5)])
        runner.restore(state={("old",): 9})
        instant = runner.begin()
        instant.give(value=3, name="up")
        self.assertEqual(instant.read(name="total"), 12)

    def test_errors_of_making_one(self):
        library = sized_library(1)
        self.assertEqual(self.raised(UnknownBlock, Runner, library, "counter"), {"name": "counter"})
        self.assertEqual(self.raised(UnknownBlock, Runner, library, "add"), {"name": "add"})
        self.assertEqual(self.raised(UnknownBlock, Runner, Library(), "x"), {"name": "x"})
        self.assertEqual(self.raised(TooLarge, Runner, library, "top"), {"count": 257})
        self.assertEqual(Runner(sized_library(0), "top").step(), ())

    def test_state_is_in_the_order_of_flatten(self):
        runner = Runner(library_of(NESTED), "top")
        first = [(("m", "first", "d"), 5), (("m", "second", "d"), 5), (("e",), 9)]
        self.assertEqual(list(runner.state.items()), first)
        runner.restore(dict(first[::-1]))
        self.assertEqual(list(runner.state.items()), first)
        runner.step(2, 3)
        self.assertEqual([path for path in runner.state], [path for path, _ in first])
        turned = library_of("block x(;)\n  part z = delay 1\n  part a = delay 2\n  z.in <- a.out\n  a.in <- z.out\nend")
        runner = Runner(turned, "x")
        self.assertEqual(list(runner.state.items()), [(("z",), 1), (("a",), 2)])
        runner.step()
        self.assertEqual(list(runner.state.items()), [(("z",), 2), (("a",), 1)])

    def test_without_delays_and_without_ports(self):
        library = library_of("block none(;)\nend", "block wire(i; o)\n  o <- i\nend")
        runner = Runner(library, "none")
        self.assertEqual((runner.state, runner.step(), runner.step_row([]), runner.step_row(())), ({}, (), (), ()))
        self.assertEqual(list(runner.trace([(), []])), [(), ()])
        self.assertEqual(Runner(library, "wire").step(7), (7,))

    def test_told_states_are_new_ones(self):
        runner = Runner(library_of(COUNTER), "counter")
        told = runner.state
        told[("old",)] = 7
        told[("x",)] = 8
        self.assertEqual(runner.state, {("old",): 0})
        given = {("old",): 5}
        runner.restore(given)
        given[("old",)] = 6
        self.assertEqual(runner.step(0), (5, 5))
        self.assertEqual(given, {("old",): 6})

    def test_runners_of_one_library_are_apart(self):
        library = library_of(COUNTER)
        one, other = Runner(library, "counter"), Runner(library, "counter")
        one.step(3)
        opened = one.begin()
        self.assertEqual((other.state, other.instant, other.step(1)), ({("old",): 0}, None, (0, 1)))
        self.assertIs(one.instant, opened)

    def test_all_delays_change_at_once(self):
        library = library_of("block x(i; o p q)\n  part a = delay 1\n  part b = delay 2\n  part c = delay 3\n"
                             "  a.in <- i\n  b.in <- a.out\n  c.in <- b.out\n  o <- a.out\n  p <- b.out\n"
                             "  q <- c.out\nend")
        self.assertEqual(list(Runner(library, "x").trace([[7], [8], [9], [0]])),
                         [(1, 2, 3), (7, 1, 2), (8, 7, 1), (9, 8, 7)])

    def test_twenty_four_deep(self):
        library = library_of(*chain_texts(24))
        runner = Runner(library, named(23))
        self.assertEqual(list(runner.trace([[5], [6], [7]])), [(1,), (5,), (6,)])
        self.assertEqual(runner.state, {tuple("p" * 23) + ("x",): 7})

    def test_wrong_rows(self):
        runner = Runner(library_of(MIXED), "mixed")
        runner.step(1, 2, 3)
        before = runner.state
        for row in ((), (1,), (1, 2), (1, 2, 3, 4), (None, None), ("x",) * 4):
            self.assertEqual(self.raised(WrongCount, runner.step, *row), {"count": 3})
            self.assertEqual(self.raised(WrongCount, runner.step_row, list(row)), {"count": 3})
            self.assertEqual(self.raised(WrongCount, list, runner.trace([row])), {"count": 3})
        for value in NOT_VALUES:
            for place, name in enumerate("abc"):
                row = [1, 2, 3]
                row[place] = value
                self.assertEqual(self.raised(BadValue, runner.step, *row), {"name": name})
                self.assertEqual(self.raised(BadValue, runner.step_row, row), {"name": name})
                self.assertEqual(self.raised(BadValue, runner.step_row, row[:place] + [value] * (3 - place)),
                                 {"name": name})
        self.assertEqual((runner.state, runner.instant), (before, None))
        self.assertEqual(runner.step(0, TOP, 0), (0, before[("d",)], TOP, TOP))

    def test_trace_runs_when_it_is_asked(self):
        runner = Runner(library_of(COUNTER), "counter")
        rows = [[1], (2,), [3]]
        told = runner.trace(rows)
        self.assertEqual(runner.state, {("old",): 0})
        self.assertEqual((next(told), runner.state), ((0, 1), {("old",): 1}))
        runner.step(10)
        self.assertEqual((next(told), runner.state), ((11, 13), {("old",): 13}))
        self.assertEqual(list(told), [(13, 16)])
        self.assertEqual(rows, [[1], (2,), [3]])
        self.assertEqual(list(runner.trace([])), [])

    def test_trace_reads_row_by_row(self):
        runner, rows = Runner(library_of(COUNTER), "counter"), [[1], [2]]
        told = runner.trace(rows)
        self.assertEqual(next(told), (0, 1))
        rows[1] = [5]
        rows.append([6])
        self.assertEqual(list(told), [(1, 6), (6, 12)])

    def test_trace_with_wrong_rows(self):
        runner = Runner(library_of(COUNTER), "counter")
        told = runner.trace([[1], [2], [3, 4], [5]])
        self.assertEqual([next(told), next(told)], [(0, 1), (1, 3)])
        self.assertEqual(self.raised(WrongCount, next, told), {"count": 1})
        self.assertEqual(runner.state, {("old",): 3})
        told = runner.trace([[1], [True]])
        self.assertEqual(next(told), (3, 4))
        self.assertEqual(self.raised(BadValue, next, told), {"name": "up"})
        self.assertEqual(runner.state, {("old",): 4})

    def test_trace_with_an_open_instant(self):
        runner = Runner(library_of(COUNTER), "counter")
        told = runner.trace([[1], [2]])
        self.assertEqual(next(told), (0, 1))
        runner.begin()
        self.assertEqual(list(runner.trace([])), [])
        self.raised(InstantOpen, next, told)
        self.assertEqual(runner.state, {("old",): 1})

    def test_several_traces(self):
        runner = Runner(library_of(COUNTER), "counter")
        one, other = runner.trace([[1], [2]]), runner.trace([[10], [20]])
        self.assertEqual([next(one), next(other), next(one), next(other)], [(0, 1), (1, 11), (11, 13), (13, 33)])

    def test_wrong_states(self):
        runner = Runner(library_of(NESTED), "top")
        runner.step(3, 4)
        before = runner.state
        paths = list(before)
        self.assertEqual(self.raised(BadState, runner.restore, {})["path"] in paths, True)
        for path in paths:
            lacking = {other: 1 for other in paths if other != path}
            self.assertEqual(self.raised(BadState, runner.restore, lacking), {"path": path})
            for value in NOT_VALUES:
                self.assertEqual(self.raised(BadState, runner.restore, {**before, path: value}), {"path": path})
        for path in ((), ("m",), ("m", "first"), ("m", "first", "s"), ("m", "idle"), ("m", "first", "d", "x"), "e",
                     "m.first.d", 0, None, True, ("E",)):
            self.assertEqual(self.raised(BadState, runner.restore, {**before, path: 1}), {"path": path})
        self.assertEqual(runner.state, before)
        self.assertIs(runner.restore({path: k for k, path in enumerate(paths)}), None)
        self.assertEqual(runner.state, {path: k for k, path in enumerate(paths)})
        runner.restore({path: TOP for path in paths})
        self.assertEqual(set(runner.state.values()), {TOP})

    def test_open_instants_come_first(self):
        library = library_of(MIXED, "block x(;)\nend")
        runner = Runner(library, "mixed")
        instant = runner.begin()
        instant.give("a", 4)
        library.change([], ["mixed"])
        for call in (runner.begin, lambda: runner.step(1, 2, 3), lambda: runner.step(), lambda: runner.step_row([None]),
                     lambda: next(runner.trace([[]])), lambda: runner.restore({}), runner.move):
            self.assertEqual(self.raised(InstantOpen, call), {})
            self.assertIs(runner.instant, instant)
        self.assertEqual((instant.is_open, runner.state), (True, {("d",): 4}))
        instant.give_all(c=1, b=9)
        self.assertEqual(instant.finish(), (5, 4, 4, 9))


class MoveTest(MachineCase):
    def test_library_as_it_was(self):
        library = library_of(COUNTER, USER)
        runner, counter = Runner(library, "user"), Runner(library, "counter")
        self.assertEqual((runner.step(), counter.step(5)), ((0,), (0, 5)))
        library.change(diagrams_of(COUNTER.replace("= add", "= sub").replace("delay 0", "delay 6")), [])
        runner.restore({("one", "old"): 4})
        instant = runner.begin()
        self.assertEqual((instant.read("x"), instant.finish()), (8, (8,)))
        self.assertEqual((runner.state, counter.step(2)), ({("one", "old"): 8}, (5, 7)))
        library.change([], ["counter", "user"])
        self.assertEqual((runner.step(), counter.step(2)), ((16,), (7, 9)))

    def test_move_takes_what_is_now(self):
        library = library_of(COUNTER, USER)
        runner = Runner(library, "user")
        runner.restore({("one", "old"): 4})
        library.change(diagrams_of(COUNTER.replace("= add", "= mul").replace("delay 0", "delay 6")), [])
        self.assertEqual(runner.step(), (8,))
        self.assertIs(runner.move(), None)
        self.assertEqual((runner.state, runner.step(), runner.state), ({("one", "old"): 8}, (64,), {("one", "old"): 64}))
        self.assertEqual(runner.instant, None)

    def test_which_delays_keep_their_values(self):
        library = library_of("block x(i;)\n  part a = delay 1\n  part b = delay 2\n  part c = delay 3\n  a.in <- i\n"
                             "  b.in <- i\n  c.in <- i\nend")
        runner = Runner(library, "x")
        runner.step(9)
        library.change(diagrams_of("block x(i;)\n  part e = delay 5\n  part b = add\n  part a = delay 7\n  a.in <- i\n"
                                   "  b.a <- i\n  b.b <- i\n  e.in <- i\nend"), [])
        runner.move()
        self.assertEqual(list(runner.state.items()), [(("e",), 5), (("a",), 9)])
        library.change(diagrams_of("block x(i;)\n  part b = delay 2\n  part a = y\n  b.in <- i\nend",
                                   "block y(;)\n  part a = delay 4\n  a.in <- a.out\nend"), [])
        runner.move()
        self.assertEqual(list(runner.state.items()), [(("b",), 2), (("a", "a"), 4)])

    def test_blocks_may_change_on_the_way_to_a_delay(self):
        library = library_of("block x(;)\n  part p = y\nend", "block y(;)\n  part d = delay 1\n  d.in <- d.out\nend",
                             "block z(;)\n  part d = delay 2\n  d.in <- d.out\nend")
        runner = Runner(library, "x")
        runner.restore({("p", "d"): 8})
        library.change(diagrams_of("block x(;)\n  part p = z\nend"), ["y"])
        runner.move()
        self.assertEqual(runner.state, {("p", "d"): 8})

    def test_errors(self):
        library = library_of(COUNTER)
        runner = Runner(library, "counter")
        runner.step(3)
        library.change([], ["counter"])
        self.assertEqual(self.raised(UnknownBlock, runner.move), {"name": "counter"})
        self.assertEqual((runner.state, runner.step(1)), ({("old",): 3}, (3, 4)))
        leaf = "\n".join(["block leaf(;)", *[f"  part {chr(97 + k)} = const 1" for k in range(16)], "end"])
        parts = [f"  part {chr(99 + k)} = leaf" for k in range(16)]
        library.change(diagrams_of(leaf, "\n".join(["block counter(;)", *parts, "end"])), [])
        self.assertEqual(self.raised(TooLarge, runner.move), {"count": 272})
        self.assertEqual((runner.state, runner.step(1)), ({("old",): 4}, (4, 5)))
        library.change(diagrams_of(COUNTER), [])
        runner.move()
        self.assertEqual(runner.step(1), (5, 6))

    def test_other_ports(self):
        library = library_of(COUNTER)
        runner = Runner(library, "counter")
        runner.step(3)
        library.change(diagrams_of("block counter(x y; z)\n  part old = delay 1\n  old.in <- y\n  z <- old.out\nend"),
                       [])
        runner.move()
        self.assertEqual(self.raised(WrongCount, runner.step, 1), {"count": 2})
        self.assertEqual((runner.step(1, 7), runner.step(1, 2)), ((3,), (7,)))
        self.assertEqual(runner.begin().inputs, ("x", "y"))

    def test_dropped_instants_stay_closed(self):
        library = library_of(COUNTER)
        runner = Runner(library, "counter")
        instant = runner.begin()
        instant.drop()
        library.change(diagrams_of(COUNTER.replace("delay 0", "delay 8")), [])
        runner.move()
        self.assertEqual((instant.is_open, instant.ready, runner.state), (False, (), {("old",): 0}))

    def test_equal_diagrams_and_states_answer_alike(self):
        library, other = library_of(NESTED), library_of(NESTED)
        one, two = Runner(library, "top"), Runner(other, "top")
        one.restore({path: 4 for path in one.state})
        for k in range(3):
            two.step(k, k + 1)
        two.restore(one.state)
        rows = [(k * 77, k) for k in range(10)]
        self.assertEqual(list(one.trace(rows)), list(two.trace(rows)))
        self.assertEqual(one.state, two.state)


class InstantTest(MachineCase):
    def setUp(self):
        self.runner = Runner(library_of(MIXED), "mixed")
        self.instant = self.runner.begin()

    def test_what_it_tells(self):
        instant = self.instant
        self.assertIsInstance(instant, Instant)
        self.assertEqual((instant.inputs, instant.outputs), (("a", "b", "c"), ("s", "t", "u", "v")))
        self.assertIs(instant.is_open, True)
        self.assertIs(self.runner.instant, instant)
        self.assertEqual(instant.ready, ("t",))
        instant.drop()
        self.assertEqual((instant.inputs, instant.outputs), (("a", "b", "c"), ("s", "t", "u", "v")))
        self.assertIs(self.runner.instant, None)

    def test_ready_outputs_for_each_set_of_inputs_in_each_order(self):
        needs = {"s": "ac", "t": "", "u": "abc", "v": "b"}
        values = {"a": 10, "b": 20, "c": 30}
        expected = {"s": 40, "t": 4, "u": 2 ** 32 - 20, "v": 20}
        for order in itertools.permutations("abc"):
            for many in range(4):
                runner = Runner(library_of(MIXED), "mixed")
                instant = runner.begin()
                for k in range(many + 1):
                    given = order[:k]
                    if k:
                        self.assertIs(instant.give(order[k - 1], values[order[k - 1]]), None)
                    self.assertEqual(instant.ready, tuple(name for name in "stuv" if set(needs[name]) <= set(given)))
                for name in "stuv":
                    missing = tuple(need for need in needs[name] if need not in given)
                    if missing:
                        self.assertEqual(self.raised(NotGiven, instant.read, name), {"missing": missing})
                    else:
                        self.assertEqual(instant.read(name), expected[name])
                        self.assertEqual(instant.read(name), expected[name])
                lacking = tuple(name for name in "abc" if name not in given)
                if lacking:
                    self.assertEqual(self.raised(NotGiven, instant.finish), {"missing": lacking})
                    self.assertEqual(self.raised(NotGiven, instant.table), {"missing": lacking})
                    self.assertEqual((instant.is_open, runner.state), (True, {("d",): 4}))
                else:
                    self.assertEqual(instant.finish(), (40, 4, 2 ** 32 - 20, 20))
                    self.assertEqual(runner.state, {("d",): 2 ** 32 - 20})

    def test_outputs_do_not_depend_on_other_inputs(self):
        for other in (0, 7, TOP):
            instant = Runner(library_of(MIXED), "mixed").begin()
            instant.give("b", other)
            instant.give("a", 1)
            instant.give("c", 2)
            self.assertEqual((instant.read("s"), instant.read("t")), (3, 4))

    def test_give_errors(self):
        instant = self.instant
        instant.give("a", 5)
        for name in ("s", "d", "x", "", "A", "add"):
            for value in (1, None, -1):
                self.assertEqual(self.raised(UnknownPort, instant.give, name, value), {"name": name})
        for value in NOT_VALUES:
            self.assertEqual(self.raised(BadValue, instant.give, "a", value), {"name": "a"})
            self.assertEqual(self.raised(BadValue, instant.give, "b", value), {"name": "b"})
        self.assertEqual(self.raised(Given, instant.give, "a", 5), {"name": "a"})
        self.assertEqual(self.raised(Given, instant.give, "a", 6), {"name": "a"})
        self.assertEqual(instant.ready, ("t",))
        instant.give("b", TOP)
        instant.give("c", 0)
        self.assertEqual(instant.finish(), (5, 4, TOP - 5, TOP))

    def test_give_all(self):
        instant = self.instant
        self.assertIs(instant.give_all(), None)
        self.assertIs(instant.give_all(c=3, a=1), None)
        self.assertEqual(instant.read("s"), 4)
        self.assertIs(instant.give_all(b=0), None)
        self.assertEqual(instant.finish(), (4, 4, TOP - 3, 0))

    def test_give_all_gives_all_or_none(self):
        instant = self.instant
        instant.give("a", 1)
        for values, kind, name in (
                ({"b": 1, "x": 1}, UnknownPort, "x"), ({"b": 1, "c": -1}, BadValue, "c"), ({"b": 1, "a": 1}, Given, "a"),
                ({"x": None, "c": -1, "a": 1}, UnknownPort, "x"), ({"c": True, "x": 1, "a": 1}, BadValue, "c"),
                ({"a": 1, "x": 1, "c": -1}, Given, "a"), ({"a": None}, BadValue, "a"), ({"s": 1}, UnknownPort, "s"),
                ({"b": 3, "c": 4, "t": 1}, UnknownPort, "t"), ({"c": 1, "b": None}, BadValue, "b")):
            self.assertEqual(self.raised(kind, instant.give_all, **values), {"name": name})
            self.assertEqual(instant.ready, ("t",))
            self.assertEqual(self.raised(NotGiven, instant.finish), {"missing": ("b", "c")})
        instant.give_all(b=1, c=2)
        self.assertEqual(instant.finish(), (3, 4, TOP - 1, 1))

    def test_names_that_are_words_of_python(self):
        runner = Runner(library_of("block x(in values name if; is)\n  is <- if\nend"), "x")
        instant = runner.begin()
        instant.give_all(**{"in": 1, "values": 2, "name": 3, "if": 4})
        self.assertEqual(instant.finish(), (4,))

    def test_read_errors(self):
        for name in ("a", "d", "x", "", "d.out"):
            self.assertEqual(self.raised(UnknownPort, self.instant.read, name), {"name": name})
        self.assertEqual(self.raised(NotGiven, self.instant.read, "u"), {"missing": ("a", "b", "c")})
        self.instant.give("b", 3)
        self.assertEqual(self.raised(NotGiven, self.instant.read, "u"), {"missing": ("a", "c")})
        self.assertEqual(self.raised(NotGiven, self.instant.read, "s"), {"missing": ("a", "c")})
        self.instant.give("a", 3)
        self.assertEqual(self.raised(NotGiven, self.instant.read, "u"), {"missing": ("c",)})

    def test_closed_instants(self):
        finished = self.instant
        finished.give_all(a=1, b=2, c=3)
        finished.finish()
        dropped = self.runner.begin()
        dropped.give("a", 1)
        self.assertIs(dropped.drop(), None)
        state = self.runner.state
        for instant in (finished, dropped):
            self.assertIs(instant.is_open, False)
            self.assertEqual(instant.ready, ())
            for call in (lambda: instant.give("b", 1), lambda: instant.give("x", None), instant.give_all,
                         lambda: instant.give_all(b=1), lambda: instant.give_all(x=1), lambda: instant.read("t"),
                         lambda: instant.read("x"), instant.finish, instant.table):
                self.assertEqual(self.raised(InstantClosed, call), {})
            instant.drop()
        self.assertEqual((self.runner.state, self.runner.instant), (state, None))

    def test_drop_of_an_old_instant_leaves_the_open_one(self):
        self.instant.drop()
        later = self.runner.begin()
        self.instant.drop()
        self.assertIs(self.runner.instant, later)
        self.assertIs(later.is_open, True)
        with self.instant:
            pass
        self.assertIs(self.runner.instant, later)
        self.assertIsNot(later, self.instant)

    def test_drop_leaves_the_state(self):
        self.instant.give_all(a=1, b=2, c=3)
        self.instant.read("u")
        self.instant.drop()
        self.assertEqual(self.runner.state, {("d",): 4})
        self.assertEqual(self.runner.step(1, 2, 3), (4, 4, TOP - 1, 2))

    def test_finish(self):
        self.instant.give_all(a=1, b=20, c=3)
        told = self.instant.finish()
        self.assertEqual(told, (4, 4, 16, 20))
        self.assertIsInstance(told, tuple)
        self.assertIs(self.instant.is_open, False)
        self.assertEqual((self.runner.instant, self.runner.state), (None, {("d",): 16}))
        self.assertEqual(self.runner.begin().read("t"), 16)

    def test_table(self):
        self.assertEqual(self.raised(NotGiven, self.instant.table), {"missing": ("a", "b", "c")})
        self.instant.give_all(a=1, b=20, c=3)
        expected = {((), "a"): 1, ((), "b"): 20, ((), "c"): 3, ((), "s"): 4, ((), "t"): 4, ((), "u"): 16, ((), "v"): 20,
                    (("d",), "in"): 16, (("d",), "out"): 4, (("k",), "out"): 3, (("m",), "a"): 3, (("m",), "b"): 1,
                    (("m",), "out"): 4, (("n",), "a"): 20, (("n",), "b"): 4, (("n",), "out"): 16}
        told = self.instant.table()
        self.assertEqual(told, expected)
        told.clear()
        self.assertEqual(self.instant.table(), expected)
        self.assertIs(self.instant.is_open, True)
        self.assertEqual(self.runner.state, {("d",): 4})
        self.instant.finish()
        self.assertEqual(self.runner.state, {("d",): 16})

    def test_table_is_of_the_library_as_it_was(self):
        library = library_of(COUNTER, USER)
        runner = Runner(library, "user")
        library.change([], ["user", "counter"])
        self.assertEqual(runner.begin().table(), {
            ((), "x"): 0, (("one",), "up"): 0, (("one",), "count"): 0, (("one",), "total"): 0,
            (("one", "old"), "in"): 0, (("one", "old"), "out"): 0, (("one", "sum"), "a"): 0, (("one", "sum"), "b"): 0,
            (("one", "sum"), "out"): 0})

    def test_with(self):
        self.instant.drop()
        with self.runner.begin() as instant:
            self.assertIs(instant, self.runner.instant)
            instant.give_all(a=1, b=20, c=3)
            instant.finish()
        self.assertEqual((instant.is_open, self.runner.state), (False, {("d",): 16}))
        with self.runner.begin() as instant:
            instant.give_all(a=1, b=50, c=3)
            self.assertEqual(instant.read("u"), 46)
        self.assertEqual((instant.is_open, self.runner.instant, self.runner.state), (False, None, {("d",): 16}))
        with instant as same:
            self.assertIs(same, instant)
            self.assertRaises(InstantClosed, instant.read, "t")

    def test_with_lets_errors_through(self):
        with self.assertRaises(NotGiven):
            with self.instant:
                self.instant.finish()
        self.assertEqual((self.instant.is_open, self.runner.instant), (False, None))
        instant = self.runner.begin()
        with self.assertRaises(KeyError):
            with instant:
                raise KeyError("x")
        self.assertIs(instant.is_open, False)

    def test_leaving_with_drops_the_instant(self):
        self.instant.drop()
        for fails in (False, True):
            instant = self.runner.begin()
            try:
                with instant:
                    instant.give_all(a=1, b=50, c=3)
                    self.assertEqual(instant.read("u"), 46)
                    if fails:
                        raise KeyError("x")
            except KeyError:
                self.assertTrue(fails)
            self.assertEqual((instant.is_open, instant.ready, self.runner.instant), (False, (), None))
            self.assertEqual(self.runner.state, {("d",): 4})
            for call in (instant.finish, instant.table, lambda: instant.give("a", 1), lambda: instant.read("t")):
                self.assertRaises(InstantClosed, call)
            self.assertIsNone(instant.drop())
        # An instant that was finished within it stays finished.
        with self.runner.begin() as instant:
            instant.give_all(a=1, b=20, c=3)
            instant.finish()
        self.assertEqual(self.runner.state, {("d",): 16})

    def test_an_output_fed_back_to_an_input_it_does_not_need(self):
        runner = Runner(library_of(COUNTER), "counter")
        runner.restore({("old",): 5})
        for total in (10, 20, 40):
            instant = runner.begin()
            instant.give("up", instant.read("count"))
            self.assertEqual(instant.finish()[1], total)


class RulesTest(MachineCase):
    def test_primitives_within_a_diagram(self):
        text = """block all(a b c; s t u v w x y z)
  part pa = add
  part pb = sub
  part pc = mul
  part pd = less
  part pe = equal
  part pf = pick
  part pg = divide
  pa.a <- a
  pa.b <- b
  pb.a <- a
  pb.b <- b
  pc.a <- a
  pc.b <- b
  pd.a <- a
  pd.b <- b
  pe.a <- a
  pe.b <- b
  pf.a <- a
  pf.b <- b
  pf.c <- c
  pg.a <- a
  pg.b <- b
  s <- pa.out
  t <- pb.out
  u <- pc.out
  v <- pd.out
  w <- pe.out
  x <- pf.out
  y <- pg.quotient
  z <- pg.rest
end"""
        runner = Runner(library_of(text), "all")
        edges = (0, 1, 2, 3, 65536, 2 ** 31, TOP - 1, TOP)
        for a, b, c in itertools.product(edges, edges, (0, 1, TOP)):
            self.assertEqual(runner.step(a, b, c), (
                (a + b) % 2 ** 32, (a - b) % 2 ** 32, a * b % 2 ** 32, int(a < b), int(a == b), a if c else b,
                a // b if b else 0, a % b if b else a))


if __name__ == "__main__":
    unittest.main()
