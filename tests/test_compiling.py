"""compile_diagram: points 8 to 11, its errors and made-up interfaces."""

import copy
import unittest

import oracle
from samples import COUNTER
from stepblocks.blocks import Diagram
from stepblocks.compiling import Compiled, compile_diagram, is_interface
from stepblocks.errors import BadDiagram, BadInterface, Cycle, UnknownBlock

WIRE = (("i",), ("o",), ((("o",), ("i",)),))
COUNTED = (("up",), ("count", "total"), ((("count",), ()), (("total",), ("up",))))


def compiled(text, interfaces=None):
    return compile_diagram(Diagram.parse(text), interfaces or {})


class ResultTest(unittest.TestCase):
    def test_counter(self):
        found = compiled(COUNTER)
        self.assertIsInstance(found, Compiled)
        self.assertEqual((found.inputs, found.outputs), (("up",), ("count", "total")))
        self.assertEqual(found.profile, COUNTED[2])
        self.assertEqual(found.interface, COUNTED)
        old = ("old", 0, ())
        total = ("sum", 0, (("a", ("old", "out")), ("b", ("", "up"))))
        self.assertEqual(found.steps, (
            ((old,), (("count", ("old", "out")),)), ((old, total), (("total", ("sum", "out")),))))
        self.assertEqual(found.end, ((old, total), (
            ("old", "in", ("sum", "out")), ("sum", "a", ("old", "out")), ("sum", "b", ("", "up")))))

    def test_arguments_by_name(self):
        found = compile_diagram(diagram=Diagram.parse(COUNTER), interfaces={})
        self.assertEqual(found.interface, COUNTED)

    def test_user_of_the_counter(self):
        text = "block user(; x)\n  part one = counter\n  one.up <- one.count\n  x <- one.total\nend"
        found = compiled(text, {"counter": COUNTED})
        calls = (("one", 0, ()), ("one", 1, (("up", ("one", "count")),)))
        self.assertEqual(found.interface, ((), ("x",), ((("x",), ()),)))
        self.assertEqual(found.steps, ((calls, (("x", ("one", "total")),)),))
        self.assertEqual(found.end, (calls, (("one", "up", ("one", "count")),)))

    def test_nothing(self):
        found = compiled("block none(;)\nend")
        self.assertEqual((found.interface, found.steps, found.end), (((), (), ()), (), ((), ())))

    def test_wires_straight_through(self):
        found = compiled("block x(a b; p q r)\n  p <- b\n  q <- a\n  r <- b\nend")
        self.assertEqual(found.profile, ((("p", "r"), ("b",)), (("q",), ("a",))))
        self.assertEqual(found.steps, (((), (("p", ("", "b")), ("r", ("", "b")))), ((), (("q", ("", "a")),))))
        self.assertEqual(found.end, ((), ()))

    def test_inputs_without_use_and_parts_without_use(self):
        found = compiled("block x(a b; p)\n  part k = const 7\n  part s = add\n  s.a <- a\n  s.b <- k.out\n"
                         "  p <- k.out\nend")
        self.assertEqual(found.profile, ((("p",), ()),))
        self.assertEqual(found.steps, (((("k", 0, ()),), (("p", ("k", "out")),)),))
        self.assertEqual(found.end[0], (("k", 0, ()), ("s", 0, (("a", ("", "a")), ("b", ("k", "out"))))))

    def test_needs_are_in_the_order_of_the_diagram(self):
        found = compiled("block x(z a m; q p)\n  part s = add\n  part t = add\n  s.a <- m\n  s.b <- a\n"
                         "  t.a <- s.out\n  t.b <- z\n  q <- t.out\n  p <- s.out\nend")
        self.assertEqual(found.profile, ((("q",), ("z", "a", "m")), (("p",), ("a", "m"))))

    def test_needs_depend_on_wires_only(self):
        found = compiled("block x(a; p)\n  part z = const 0\n  part m = mul\n  m.a <- a\n  m.b <- z.out\n"
                         "  p <- m.out\nend")
        self.assertEqual(found.profile, ((("p",), ("a",)),))

    def test_delays_need_nothing(self):
        found = compiled("block x(a; p q)\n  part d = delay 3\n  part e = delay 4\n  d.in <- a\n  e.in <- e.out\n"
                         "  p <- d.out\n  q <- e.out\nend")
        self.assertEqual(found.profile, ((("p", "q"), ()),))
        self.assertEqual(found.end[0], (("d", 0, ()), ("e", 0, ())))

    def test_smallest_ready_call_first(self):
        found = compiled("block x(a; p)\n  part s = add\n  part t = add\n  part u = add\n  part v = add\n"
                         "  s.a <- u.out\n  s.b <- u.out\n  t.a <- s.out\n  t.b <- v.out\n  u.a <- a\n  u.b <- a\n"
                         "  v.a <- a\n  v.b <- a\n  p <- t.out\nend")
        self.assertEqual([call[0] for call in found.end[0]], ["u", "s", "v", "t"])
        self.assertEqual(found.steps[0][0], found.end[0])

    def test_feeds_by_part_and_then_by_name(self):
        found = compiled("block x(a;)\n  part s = pick\n  part b = divide\n  s.a <- a\n  s.b <- a\n  s.c <- a\n"
                         "  b.a <- a\n  b.b <- s.out\nend")
        self.assertEqual(found.end[1], (("s", "a", ("", "a")), ("s", "b", ("", "a")), ("s", "c", ("", "a")),
                                        ("b", "a", ("", "a")), ("b", "b", ("s", "out"))))
        self.assertEqual(found.end[0][0][2], (("c", ("", "a")), ("a", ("", "a")), ("b", ("", "a"))))

    def test_part_without_outputs(self):
        found = compiled("block x(a;)\n  part s = sink\n  s.a <- a\nend", {"sink": (("a",), (), ())})
        self.assertEqual((found.steps, found.end), ((), ((), (("s", "a", ("", "a")),))))

    def test_part_of_its_own_name(self):
        found = compiled("block wire(i; o)\n  part w = wire\n  w.i <- i\n  o <- w.o\nend", {"wire": WIRE})
        self.assertEqual(found.interface, WIRE)

    def test_both_outputs_of_a_part_make_one_call(self):
        found = compiled("block x(a; p q)\n  part d = divide\n  d.a <- a\n  d.b <- a\n  p <- d.rest\n"
                         "  q <- d.quotient\nend")
        call = ("d", 0, (("a", ("", "a")), ("b", ("", "a"))))
        self.assertEqual(found.steps, (((call,), (("p", ("d", "rest")), ("q", ("d", "quotient")))),))

    def test_all_is_made_of_tuples(self):
        found = compiled(COUNTER)

        def check(value):
            if isinstance(value, tuple):
                for item in value:
                    check(item)
            else:
                self.assertIn(type(value), (str, int))
        check((found.interface, found.steps, found.end))

    def test_answers_are_the_same_again(self):
        found = compiled(COUNTER)
        told = (found.interface, found.steps, found.end)
        again = compiled(COUNTER)
        self.assertEqual((again.interface, again.steps, again.end), told)
        self.assertEqual((found.interface, found.steps, found.end), told)

    def test_sixteen_parts_with_eight_step_functions_each(self):
        names = list("abcdefghijklmnop")
        ins, outs = tuple("abcdefgh"), tuple("ijklmnop")
        many = (ins, outs, tuple(((name,), ins) for name in outs))
        rows = [f"  part {name} = many" for name in names]
        for at, name in enumerate(names):
            source = f"{names[at + 1]}." if at < 15 else ""
            rows += [f"  {name}.{i} <- {source}{o if source else i}" for i, o in zip(ins, outs)]
        rows += [f"  {o} <- a.{o}" for o in outs]
        text = "\n".join([f"block big({' '.join(ins)}; {' '.join(outs)})", *rows, "end"])
        found = compiled(text, {"many": many})
        self.assertEqual(found.profile, ((outs, ins),))
        self.assertEqual([call[:2] for call in found.end[0]],
                         [(name, number) for name in reversed(names) for number in range(8)])


class MadeUpInterfacesTest(unittest.TestCase):
    def test_equal_needs_in_several_step_functions(self):
        split = (("a",), ("x", "y"), ((("x",), ("a",)), (("y",), ("a",))))
        found = compiled("block t(a; p q)\n  part s = split\n  s.a <- a\n  p <- s.x\n  q <- s.y\nend", {"split": split})
        argument = (("a", ("", "a")),)
        self.assertEqual(found.profile, ((("p", "q"), ("a",)),))
        self.assertEqual(found.steps[0][0], (("s", 0, argument), ("s", 1, argument)))
        found = compiled("block t(a; q)\n  part s = split\n  s.a <- a\n  q <- s.y\nend", {"split": split})
        self.assertEqual(found.steps[0][0], (("s", 1, argument),))

    def test_outputs_that_need_less_than_their_step_function(self):
        joined = (("up",), ("count", "total"), ((("count", "total"), ("up",)),))
        text = "block user(; x)\n  part one = counter\n  one.up <- one.count\n  x <- one.total\nend"
        compiled(text, {"counter": COUNTED})
        with self.assertRaises(Cycle) as caught:
            compiled(text, {"counter": joined})
        self.assertEqual((caught.exception.name, caught.exception.cycle), ("user", [("one", 0)]))
        text = "block user(u; x y)\n  part one = counter\n  one.up <- u\n  x <- one.count\n  y <- one.total\nend"
        self.assertEqual(compiled(text, {"counter": COUNTED}).profile, ((("x",), ()), (("y",), ("u",))))
        self.assertEqual(compiled(text, {"counter": joined}).profile, ((("x", "y"), ("u",)),))

    def test_later_step_function_first(self):
        crossed = (("a", "b"), ("x", "y"), ((("x",), ("a",)), (("y",), ("b",))))
        found = compiled("block t(a; p)\n  part s = crossed\n  s.a <- s.y\n  s.b <- a\n  p <- s.x\nend",
                         {"crossed": crossed})
        self.assertEqual(found.end[0], (("s", 1, (("b", ("", "a")),)), ("s", 0, (("a", ("s", "y")),))))
        self.assertEqual(found.profile, ((("p",), ("a",)),))


class LookupTest(unittest.TestCase):
    def test_only_blocks_of_parts_are_looked_up(self):
        class Watched(dict):
            asked = []

            def __contains__(self, key):
                self.asked.append(key)
                return dict.__contains__(self, key)

            def __getitem__(self, key):
                self.asked.append(key)
                return dict.__getitem__(self, key)

            def get(self, key, default=None):
                self.asked.append(key)
                return dict.get(self, key, default)

        interfaces = Watched({"wire": WIRE, "add": 7, "const": [], "other": None, 3: "x", "const 1": (), "user": 0})
        text = ("block user(a; o)\n  part w = wire\n  part add = add\n  part k = const 1\n  w.i <- add.out\n"
                "  add.a <- a\n  add.b <- k.out\n  o <- w.o\nend")
        self.assertEqual(compiled(text, interfaces).profile, ((("o",), ("a",)),))
        self.assertEqual(set(interfaces.asked), {"wire"})

    def test_arguments_do_not_change(self):
        interfaces = {"wire": WIRE, "other": [[1], {"a": ()}], "add": None}
        before = copy.deepcopy(interfaces)
        diagram = Diagram.parse("block user(a; o)\n  part w = wire\n  w.i <- a\n  o <- w.o\nend")
        text = str(diagram)
        found = compile_diagram(diagram, interfaces)
        self.assertEqual((interfaces, list(interfaces)), (before, list(before)))
        self.assertEqual(str(diagram), text)
        interfaces.clear()
        self.assertEqual(found.interface, (("a",), ("o",), ((("o",), ("a",)),)))


class ErrorsTest(unittest.TestCase):
    def raised(self, error, text, interfaces):
        before = copy.deepcopy(interfaces)
        with self.assertRaises(error) as caught:
            compiled(text, interfaces)
        self.assertEqual(interfaces, before)
        return caught.exception

    def test_unknown_block(self):
        text = "block t(;)\n  part k = const 1\n  part a = wire\n  part b = two\n  part c = one\nend"
        self.assertEqual(self.raised(UnknownBlock, text, {}).name, "wire")
        self.assertEqual(self.raised(UnknownBlock, text, {"wire": WIRE, "one": WIRE}).name, "two")
        self.assertEqual(self.raised(UnknownBlock, text, {"wire": None, "two": None}).name, "one")

    def test_bad_interface(self):
        text = "block t(;)\n  part k = const 1\n  part a = wire\n  part b = two\nend"
        for value in (None, 0, [], (), list(WIRE), (("i",), ("o",), ()), (("i",), ("i",), ((("i",), ("i",)),))):
            self.assertEqual(self.raised(BadInterface, text, {"wire": value, "two": WIRE}).name, "wire")
            self.assertEqual(self.raised(BadInterface, text, {"wire": WIRE, "two": value}).name, "two")
            self.assertEqual(self.raised(BadInterface, text, {"two": value, "wire": value}).name, "wire")

    def check_port(self, text, interfaces, reason, ports):
        found = self.raised(BadDiagram, text, interfaces)
        self.assertEqual((found.name, found.reason), ("t", reason))
        self.assertIn(found.port, ports)

    def test_unknown_ports(self):
        rows = "block t(a; o)\n  part s = add\n  part w = wire\n  s.a <- a\n  s.b <- a\n  w.i <- a\n"
        right = {"wire": WIRE}
        for row, port in (("  o <- s.b", ("s", "b")), ("  o <- s.x", ("s", "x")), ("  o <- w.i", ("w", "i")),
                          ("  o <- w.out", ("w", "out")), ("  s.out <- a", ("s", "out")), ("  s.in <- a", ("s", "in")),
                          ("  w.o <- a", ("w", "o")), ("  w.z <- w.o", ("w", "z"))):
            self.check_port(f"{rows}{row}\nend", right, "unknown port", [port])
        self.check_port("block t(;)\n  part k = const 1\n  k.in <- k.out\nend", {}, "unknown port", [("k", "in")])
        self.check_port("block t(; o)\n  part w = e\n  o <- w.o\nend", {"e": ((), (), ())}, "unknown port",
                        [("w", "o")])

    def test_several_unknown_ports(self):
        text = "block t(a; o)\n  part s = add\n  s.z <- s.y\n  o <- s.x\nend"
        self.check_port(text, {}, "unknown port", [("s", "z"), ("s", "y"), ("s", "x")])

    def test_more_wires_than_ports(self):
        rows = [f"  s.{letter} <- a" for letter in "abcdefghijklmnopqrstuvwxyz"]
        text = "\n".join(["block t(a;)", "  part s = add", *rows, "end"])
        self.check_port(text, {}, "unknown port", [("s", letter) for letter in "cdefghijklmnopqrstuvwxyz"])

    def test_no_source(self):
        self.check_port("block t(a; o)\nend", {}, "no source", [("", "o")])
        self.check_port("block t(a; o p)\n  o <- a\nend", {}, "no source", [("", "p")])
        self.check_port("block t(a;)\n  part s = add\n  s.b <- a\nend", {}, "no source", [("s", "a")])
        self.check_port("block t(;)\n  part d = delay 0\nend", {}, "no source", [("d", "in")])
        self.check_port("block t(;)\n  part w = wire\nend", {"wire": WIRE}, "no source", [("w", "i")])
        self.check_port("block t(;)\n  part w = sink\nend", {"sink": (("i",), (), ())}, "no source", [("w", "i")])
        self.check_port("block t(; o)\n  part s = add\nend", {}, "no source", [("s", "a"), ("s", "b"), ("", "o")])

    def test_cycles(self):
        text = "block loop(; o)\n  part w = wire\n  w.i <- w.o\n  o <- w.o\nend"
        found = self.raised(Cycle, text, {"wire": WIRE})
        self.assertEqual((found.name, found.cycle), ("loop", [("w", 0)]))
        text = ("block t(a; o)\n  part x = add\n  part y = add\n  part z = add\n  part d = delay 0\n  x.a <- y.out\n"
                "  x.b <- a\n  y.a <- a\n  y.b <- z.out\n  z.a <- x.out\n  z.b <- a\n  d.in <- d.out\n  o <- d.out\nend")
        found = self.raised(Cycle, text, {})
        self.assertEqual(found.name, "t")
        self.assertIn(found.cycle, [[("x", 0), ("z", 0), ("y", 0)], [("z", 0), ("y", 0), ("x", 0)],
                                    [("y", 0), ("x", 0), ("z", 0)]])

    def test_cycle_with_calls_that_only_wait_for_it(self):
        text = ("block t(; o)\n  part u = add\n  part v = add\n  part x = add\n  part y = add\n  u.a <- v.out\n"
                "  u.b <- v.out\n  v.a <- x.out\n  v.b <- y.out\n  x.a <- y.out\n  x.b <- y.out\n  y.a <- x.out\n"
                "  y.b <- x.out\n  o <- u.out\nend")
        found = self.raised(Cycle, text, {})
        self.assertIn(found.cycle, [[("x", 0), ("y", 0)], [("y", 0), ("x", 0)]])

    def test_cycle_through_numbers(self):
        crossed = (("a", "b"), ("x", "y"), ((("x",), ("a",)), (("y",), ("b",))))
        text = "block t(;)\n  part s = crossed\n  s.a <- s.y\n  s.b <- s.x\nend"
        found = self.raised(Cycle, text, {"crossed": crossed})
        self.assertIn(found.cycle, [[("s", 0), ("s", 1)], [("s", 1), ("s", 0)]])

    def test_unused_parts_count(self):
        self.raised(Cycle, "block t(a; o)\n  part s = add\n  s.a <- s.out\n  s.b <- a\n  o <- a\nend", {})

    def test_delays_break_cycles(self):
        compiled("block t(; o)\n  part d = delay 0\n  part s = add\n  d.in <- s.out\n  s.a <- d.out\n  s.b <- d.out\n"
                 "  o <- s.out\nend")

    def test_order_of_errors(self):
        text = ("block t(; o)\n  part w = wire\n  part x = two\n  part y = one\n  part s = add\n  w.z <- s.out\n"
                "  s.a <- s.out\n  s.b <- s.out\nend")
        right = {"wire": WIRE, "two": WIRE, "one": WIRE}
        self.assertEqual(self.raised(UnknownBlock, text, {"wire": 0, "two": 0}).name, "one")
        self.assertEqual(self.raised(BadInterface, text, {**right, "two": 0, "one": 0}).name, "two")
        self.check_port(text, right, "unknown port", [("w", "z")])
        text = text.replace("  w.z <- s.out\n", "  w.i <- s.out\n")
        self.check_port(text, right, "no source", [("x", "i"), ("y", "i"), ("", "o")])
        text = text.replace("end", "  x.i <- y.o\n  y.i <- x.o\n  o <- w.o\nend")
        found = self.raised(Cycle, text.replace("wire", "two"), right)
        faces = oracle.faces_of(Diagram.parse(text), right)
        self.assertTrue(oracle.is_cycle(Diagram.parse(text), faces, found.cycle))


class DepthTest(unittest.TestCase):
    def test_diagrams_one_above_the_other(self):
        letters = "abcdefghijklmnopqrstuvwxyz"
        names = [one + other for one in letters[:2] for other in letters]
        interfaces = {"base": COUNTED}
        text = ("block {name}(up; count total)\n  part one = {below}\n  part two = {below}\n  one.up <- two.count\n"
                "  two.up <- up\n  count <- one.total\n  total <- two.total\nend")
        below = "base"
        for name in names:
            found = compiled(text.format(name=name, below=below), {below: interfaces[below]})
            interfaces[name] = found.interface
            self.assertEqual(found.interface, COUNTED)
            self.assertEqual([call[:2] for call in found.steps[0][0]], [("two", 0), ("one", 1)])
            self.assertEqual([call[:2] for call in found.steps[1][0]], [("two", 1)])
            below = name
        self.assertEqual(len(interfaces), 53)
        self.assertTrue(all(is_interface(value) for value in interfaces.values()))


if __name__ == "__main__":
    unittest.main()
