"""Ports of diagrams at every depth: points 3, 8 and 9, stages 4 and 5."""

import itertools
import random
import unittest

import portcheck
from samples import (COUNTER, NESTED, ODD_VALUES, USER, chain_texts, diagrams_of, library_of, many_parts, named,
                     sized_library, variants)
from stepblocks.errors import TooLarge, UnknownBlock, UnknownPort
from stepblocks.flat import flatten
from stepblocks.library import Library
from stepblocks.ports import cone, count_parts, is_cone, is_port_order, port_order

BLOCKS = ("const 3", "add", "pick", "divide", "delay 0", "delay 7")


class CountTest(unittest.TestCase):
    def test_small_ones(self):
        library = library_of(COUNTER, USER, NESTED, "block none(;)\nend")
        for name, count in (("none", 0), ("counter", 2), ("user", 3), ("inner", 2), ("middle", 7), ("top", 9)):
            self.assertEqual(count_parts(library, name), count)
            self.assertEqual(count_parts(library=library, name=name), count)

    def test_very_many(self):
        texts = [many_parts(named(0), ["const 1"] * 16)]
        texts += [many_parts(named(k), [named(k - 1)] * 16) for k in range(1, 24)]
        library = library_of(*texts)
        for depth in range(1, 25):
            self.assertEqual(count_parts(library, named(depth - 1)), sum(16 ** k for k in range(1, depth + 1)))
        self.assertEqual(count_parts(library, named(23)), (16 ** 25 - 16) // 15)

    def test_unknown_block(self):
        for library, name in ((Library(), "counter"), (library_of(COUNTER), "user"), (library_of(COUNTER), "add")):
            with self.assertRaises(UnknownBlock) as caught:
                count_parts(library, name)
            self.assertEqual(caught.exception.name, name)

    def test_library_as_it_is(self):
        library = library_of(COUNTER, USER)
        self.assertEqual(count_parts(library, "user"), 3)
        library.change(diagrams_of(COUNTER.replace("old.in", "k = const 3\n  old.in").replace("  k =", "  part k =")),
                       [])
        self.assertEqual(count_parts(library, "user"), 4)


class SizeTest(unittest.TestCase):
    def calls(self, library, name):
        return (lambda: port_order(library, name), lambda: is_port_order(library, name, []),
                lambda: cone(library, name, "zz"), lambda: is_cone(library, name, "zz", []),
                lambda: flatten(library, name))

    def test_two_hundred_and_fifty_six_parts(self):
        library = sized_library(0)
        self.assertEqual(count_parts(library, "top"), 256)
        order = port_order(library, "top")
        self.assertEqual(len(order), 240)
        self.assertIs(is_port_order(library, "top", order), True)
        self.assertEqual(len(flatten(library, "top")[0]), 240)
        for call in self.calls(library, "top")[2:4]:
            with self.assertRaises(UnknownPort) as caught:
                call()
            self.assertEqual(caught.exception.name, "zz")

    def test_two_hundred_and_fifty_seven_parts(self):
        library = sized_library(1)
        for call in self.calls(library, "top"):
            with self.assertRaises(TooLarge) as caught:
                call()
            self.assertEqual(caught.exception.count, 257)

    def test_the_number_is_exact(self):
        texts = [many_parts(named(0), ["const 1"] * 16)]
        texts += [many_parts(named(k), [named(k - 1)] * 16) for k in range(1, 24)]
        library = library_of(*texts)
        for depth in (2, 3, 24):
            for call in self.calls(library, named(depth - 1)):
                with self.assertRaises(TooLarge) as caught:
                    call()
                self.assertEqual(caught.exception.count, (16 ** (depth + 1) - 16) // 15)

    def test_unknown_block_comes_first(self):
        for call in self.calls(sized_library(1), "nothing"):
            with self.assertRaises(UnknownBlock) as caught:
                call()
            self.assertEqual(caught.exception.name, "nothing")

    def test_a_large_neighbour_does_not_count(self):
        library = sized_library(1)
        self.assertEqual(len(port_order(library, "large")), 16)
        self.assertEqual(len(flatten(library, "leaf")[0]), 15)


class OrderTest(unittest.TestCase):
    def test_small_ones(self):
        library = library_of(COUNTER, USER, "block none(;)\nend", "block wire(i; o)\n  o <- i\nend")
        self.assertEqual(port_order(library, "none"), [])
        self.assertEqual(port_order(library, "wire"), [((), "i"), ((), "o")])
        found = port_order(library=library, name="counter")
        self.assertEqual(sorted(found), sorted([
            ((), "up"), ((), "count"), ((), "total"), (("old",), "in"), (("old",), "out"), (("sum",), "a"),
            (("sum",), "b"), (("sum",), "out")]))
        self.assertIs(is_port_order(library=library, name="counter", value=found), True)
        self.assertIs(is_port_order(library, "none", []), True)
        self.assertIs(is_port_order(library, "counter", []), False)

    def test_what_is_returned_is_right(self):
        library = library_of(COUNTER, USER, NESTED, *chain_texts(12))
        diagrams = portcheck.diagrams_in(library)
        for name in library.names:
            found = port_order(library, name)
            self.assertTrue(portcheck.judge_order(diagrams, name, found))
            self.assertIs(is_port_order(library, name, found), True)
            again = port_order(library, name)
            found.clear()
            self.assertTrue(portcheck.judge_order(diagrams, name, again))

    def test_twenty_four_deep(self):
        library = library_of(*chain_texts(24))
        found = port_order(library, named(23))
        self.assertEqual(len(found), 50)
        self.assertEqual(max(len(path) for path, _ in found), 24)
        self.assertIs(is_port_order(library, named(23), found), True)

    def test_other_orders(self):
        library = library_of(COUNTER)
        diagrams, chance = portcheck.diagrams_in(library), random.Random(1)
        found, right = port_order(library, "counter"), 0
        for _ in range(3000):
            chance.shuffle(found)
            expected = portcheck.judge_order(diagrams, "counter", found)
            right += expected
            self.assertIs(is_port_order(library, "counter", found), expected, found)
        self.assertGreater(right, 3)

    def test_changed_values(self):
        library = library_of(COUNTER, USER)
        diagrams = portcheck.diagrams_in(library)
        for name in library.names:
            found = port_order(library, name)
            judged = [0, 0]
            for value in variants(found):
                expected = portcheck.judge_order(diagrams, name, value)
                judged[expected] += 1
                self.assertIs(is_port_order(library, name, value), expected, value)
            self.assertGreater(judged[0], 300)
            self.assertGreater(judged[1], 0)

    def test_ports_of_other_diagrams(self):
        library = library_of(COUNTER, USER)
        self.assertIs(is_port_order(library, "user", port_order(library, "counter")), False)
        self.assertIs(is_port_order(library, "counter", port_order(library, "counter") + [((), "x")]), False)

    def test_values_stay_as_they_were(self):
        library = library_of(COUNTER)
        found = port_order(library, "counter")
        before = list(found)
        is_port_order(library, "counter", found)
        self.assertEqual(found, before)


class ConeTest(unittest.TestCase):
    def test_small_ones(self):
        library = library_of(COUNTER, USER, "block wire(i j; o)\n  o <- i\nend")
        self.assertEqual(cone(library, "wire", "o"), [(((), "o"), -1), (((), "i"), 0)])
        self.assertEqual(cone(library=library, name="counter", output="count"),
                         [(((), "count"), -1), ((("old",), "out"), 0)])
        found = cone(library, "counter", "total")
        self.assertEqual({port for port, _ in found}, {
            ((), "total"), (("sum",), "out"), (("sum",), "a"), (("sum",), "b"), ((), "up"), (("old",), "out")})
        self.assertIs(is_cone(library=library, name="counter", output="total", value=found), True)
        self.assertIs(is_cone(library, "counter", "count", found), False)
        self.assertIs(is_cone(library, "counter", "total", cone(library, "counter", "count")), False)

    def test_what_is_returned_is_right(self):
        library = library_of(COUNTER, USER, NESTED, *chain_texts(12))
        diagrams = portcheck.diagrams_in(library)
        for name in library.names:
            needs = {output: needs for outputs, needs in library.compiled(name).profile for output in outputs}
            for output in library.diagram(name).outputs:
                found = cone(library, name, output)
                self.assertTrue(portcheck.judge_cone(diagrams, name, output, found))
                self.assertIs(is_cone(library, name, output, found), True)
                own = {port for (path, port), _ in found if path == ()}
                self.assertEqual([given for given in library.diagram(name).inputs if given in own],
                                 list(needs[output]))
                again = cone(library, name, output)
                found.clear()
                self.assertTrue(portcheck.judge_cone(diagrams, name, output, again))

    def test_changed_values(self):
        library = library_of(COUNTER, USER)
        diagrams = portcheck.diagrams_in(library)
        for name, output in (("counter", "total"), ("counter", "count"), ("user", "x")):
            judged = [0, 0]
            for value in variants(cone(library, name, output)):
                expected = portcheck.judge_cone(diagrams, name, output, value)
                judged[expected] += 1
                self.assertIs(is_cone(library, name, output, value), expected, value)
            self.assertGreater(judged[0], 60)

    def test_all_lists_of_a_small_graph(self):
        library = library_of("block x(i; o)\n  part s = add\n  s.a <- i\n  s.b <- i\n  o <- s.out\nend")
        diagrams, judged = portcheck.diagrams_in(library), [0, 0]
        ports = [(("s",), "out"), (("s",), "a"), (("s",), "b"), ((), "i")]
        for order in itertools.permutations(ports):
            for feeds in itertools.product((-1, 0, 1, 2, 3, 4), repeat=4):
                value = [(((), "o"), -1), *zip(order, feeds)]
                expected = portcheck.judge_cone(diagrams, "x", "o", value)
                judged[expected] += 1
                self.assertIs(is_cone(library, "x", "o", value), expected, value)
        # Behind both inputs of the sum the input may feed either one; between them, only the first one.
        self.assertEqual(judged[1], 6)

    def test_truth_values_are_no_integers(self):
        library = library_of("block wire(i; o)\n  o <- i\nend",
                             "block two(i; o)\n  part w = wire\n  w.i <- i\n  o <- w.o\nend")
        right = [(((), "o"), -1), ((("w",), "o"), 0), ((("w",), "i"), 1), (((), "i"), 2)]
        self.assertIs(is_cone(library, "two", "o", right), True)
        for index, other in ((1, False), (2, True)):
            value = list(right)
            value[index] = (right[index][0], other)
            self.assertIs(is_cone(library, "two", "o", value), False)

    def test_more_ports_than_lead_to_the_output(self):
        library = library_of(COUNTER)
        found = cone(library, "counter", "count")
        self.assertIs(is_cone(library, "counter", "count", found + [(((), "up"), 0)]), False)
        self.assertIs(is_cone(library, "counter", "count", found + [((("old",), "in"), 1)]), False)

    def test_unknown_ports(self):
        library = library_of(COUNTER)
        for output in ("up", "old", "out", "old.out", "", "x"):
            for call in (lambda: cone(library, "counter", output), lambda: is_cone(library, "counter", output, []),
                         lambda: is_cone(library, "counter", output, None)):
                with self.assertRaises(UnknownPort) as caught:
                    call()
                self.assertEqual(caught.exception.name, output)

    def test_odd_values(self):
        library = library_of(COUNTER)
        for value in ODD_VALUES:
            self.assertIs(is_cone(library, "counter", "total", value), False)
            self.assertIs(is_cone(library, "counter", "total", [value]), False)
            self.assertIs(is_cone(library, "counter", "total", [(value, -1)]), False)
            self.assertIs(is_cone(library, "counter", "count", [(((), "count"), -1), ((("old",), "out"), value)]),
                          type(value) is int and value == 0)


class FlatTest(unittest.TestCase):
    def test_small_ones(self):
        library = library_of(COUNTER, USER, "block none(;)\nend", "block wire(i; o p)\n  o <- i\n  p <- i\nend")
        self.assertEqual(flatten(library, "none"), ((), ()))
        self.assertEqual(flatten(library, "wire"), ((), ((((), "o"), ((), "i")), (((), "p"), ((), "i")))))
        old, total = (("old",), "out"), (("sum",), "out")
        self.assertEqual(flatten(library=library, name="counter"), (
            ((("old",), "delay 0"), (("sum",), "add")),
            (((("old",), "in"), total), ((("sum",), "a"), old), ((("sum",), "b"), ((), "up")),
             (((), "count"), old), (((), "total"), total))))
        old, total = (("one", "old"), "out"), (("one", "sum"), "out")
        self.assertEqual(flatten(library, "user"), (
            ((("one", "old"), "delay 0"), (("one", "sum"), "add")),
            (((("one", "old"), "in"), total), ((("one", "sum"), "a"), old), ((("one", "sum"), "b"), old),
             (((), "x"), total))))

    def test_inputs_of_one_primitive_are_in_the_order_of_the_document(self):
        library = library_of("block x(i; o)\n  part z = pick\n  part a = divide\n  a.a <- i\n  a.b <- z.out\n"
                             "  z.a <- i\n  z.b <- i\n  z.c <- i\n  o <- a.rest\nend")
        parts, wires = flatten(library, "x")
        self.assertEqual(parts, ((("z",), "pick"), (("a",), "divide")))
        self.assertEqual([target for target, _ in wires], [
            (("z",), "c"), (("z",), "a"), (("z",), "b"), (("a",), "a"), (("a",), "b"), ((), "o")])

    def test_depth_first(self):
        library = library_of(NESTED)
        self.assertEqual(flatten(library, "top")[0], (
            (("m", "first", "s"), "add"), (("m", "first", "d"), "delay 5"), (("m", "idle"), "divide"),
            (("m", "second", "s"), "add"), (("m", "second", "d"), "delay 5"), (("e",), "delay 9")))

    def test_sources_are_followed_through_all_depths(self):
        library = library_of(NESTED)
        first, second = ("m", "first"), ("m", "second")
        wires = {target: source for target, source in flatten(library, "top")[1]}
        self.assertEqual(wires[(second + ("s",), "a")], (first + ("s",), "out"))
        self.assertEqual(wires[(second + ("d",), "in")], (first + ("d",), "out"))
        self.assertEqual(wires[((), "s")], (first + ("d",), "out"))
        self.assertEqual(wires[(first + ("s",), "a")], ((), "y"))
        self.assertEqual(wires[(("e",), "in")], (second + ("s",), "out"))

    def test_twenty_four_deep(self):
        library = library_of(*chain_texts(24))
        path = tuple("p" * 23) + ("x",)
        self.assertEqual(flatten(library, named(23)), (
            ((path, "delay 1"),), (((path, "in"), ((), "a")), (((), "o"), (path, "out")))))

    def test_against_wires_followed_one_by_one(self):
        chance, deep = random.Random(8), 0
        for _ in range(60):
            library, name = portcheck.random_library(chance, 4, 4, BLOCKS)
            diagrams = portcheck.diagrams_in(library)
            parts, wires = flatten(library, name)
            self.assertEqual(parts, tuple(portcheck.list_primitives(diagrams, name)))
            self.assertEqual(wires, portcheck.flat_wires(diagrams, name))
            self.assertEqual(count_parts(library, name), portcheck.count_parts(diagrams, name))
            order = port_order(library, name)
            self.assertTrue(portcheck.judge_order(diagrams, name, order))
            self.assertIs(is_port_order(library, name, order), True)
            self.assertIs(is_port_order(library, name, order[::-1]),
                          portcheck.judge_order(diagrams, name, order[::-1]))
            deep = max([deep] + [len(path) for path, _ in parts])
        self.assertEqual(deep, 4)

    def test_library_as_it_is(self):
        library = library_of(COUNTER, USER)
        before = flatten(library, "user"), port_order(library, "user"), cone(library, "user", "x")
        library.change(diagrams_of(COUNTER.replace("delay 0", "delay 3").replace("sum.b <- up", "sum.b <- old.out")),
                       [])
        self.assertEqual(flatten(library, "user")[0][0], (("one", "old"), "delay 3"))
        self.assertIs(is_port_order(library, "user", before[1]), portcheck.judge_order(
            portcheck.diagrams_in(library), "user", before[1]))
        self.assertIs(is_cone(library, "user", "x", before[2]), False)
        self.assertIs(is_cone(library, "user", "x", cone(library, "user", "x")), True)
        library.change([], ["user"])
        with self.assertRaises(UnknownBlock):
            flatten(library, "user")


if __name__ == "__main__":
    unittest.main()
