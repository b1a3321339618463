"""Surroundings of blocks, and blocks that replace others: points 17 and 18."""

import random
import unittest

import oracle
import portcheck
from samples import COUNTER, USER, diagrams_of, library_of
from stepblocks.blocks import Diagram, Primitive
from stepblocks.compiling import compile_diagram, is_interface
from stepblocks.errors import Cycle, OtherPorts, UnknownBlock, UnknownPort
from stepblocks.library import Library
from stepblocks.surroundings import breaking, can_replace, merged, replaced, surrounding_for

AROUND = """block around(; count total)
  part inner = counter
  inner.up <- inner.count
  count <- inner.count
  total <- inner.total
end"""
# Outputs p, q, r, s and t need: c; a c; nothing; b; b.
WIDE = """block wide(c b a; q p s r t)
  part d = delay 0
  part x = add
  d.in <- a
  x.a <- a
  x.b <- c
  q <- x.out
  p <- c
  s <- b
  r <- d.out
  t <- b
end"""
BLOCKS = ("const 3", "add", "pick", "divide", "delay 0", "delay 7")


def needs_of(interface):
    return {output: needs for outputs, needs in interface[2] for output in outputs}


def is_accepted(diagram, interfaces):
    try:
        compile_diagram(diagram, interfaces)
    except Cycle:
        return False
    return True


def block_text(name, inputs, needs):
    """Return a diagram with just these needs: an output is the sum of what it needs."""
    rows, wires = ["  part z = const 0"], []
    for output, names in needs.items():
        source = "z.out"
        for given in names:
            rows.append(f"  part {output}{given} = add")
            wires += [f"  {output}{given}.a <- {source}", f"  {output}{given}.b <- {given}"]
            source = f"{output}{given}.out"
        wires.append(f"  {output} <- {source}")
    head = f"block {name}({' '.join(inputs)};{''.join(' ' + output for output in needs)})"
    return "\n".join([head, *rows, *wires, "end"])


class SurroundingCase(unittest.TestCase):
    def raised(self, kind, call, *args, **named):
        with self.assertRaises(kind) as caught:
            call(*args, **named)
        return vars(caught.exception)


class SurroundingForTest(SurroundingCase):
    def test_counter(self):
        library = library_of(COUNTER, USER)
        for first, second in (("total", "count"), ("count", "total")):
            found = surrounding_for(library, "counter", first, second, called="around")
            self.assertIsInstance(found, Diagram)
            self.assertEqual(str(found), AROUND)
        found = surrounding_for(library=library, name="counter", first="total", second="count", called="x")
        self.assertEqual(str(found), AROUND.replace("around", "x"))
        self.assertEqual(library.names, ("counter", "user"))
        self.assertEqual(library.rebuilt, ("counter", "user"))

    def test_called_is_passed_by_name(self):
        with self.assertRaises(TypeError):
            surrounding_for(library_of(COUNTER), "counter", "total", "count", "around")

    def test_equal_needs(self):
        library = library_of(COUNTER, WIDE)
        for name, first, second in (("counter", "total", "total"), ("counter", "count", "count"), ("wide", "s", "t"),
                                    ("wide", "t", "s"), ("wide", "r", "r")):
            self.assertIs(surrounding_for(library, name, first, second, called="x"), None)

    def test_first_input_that_one_of_both_needs(self):
        library = library_of(WIDE)
        for first, second, given, other in (
                ("q", "p", "a", "p"), ("q", "r", "c", "r"), ("q", "s", "c", "s"), ("p", "s", "c", "s"),
                ("s", "r", "b", "r"), ("t", "q", "c", "t"), ("p", "r", "c", "r")):
            for pair in ((first, second), (second, first)):
                found = surrounding_for(library, "wide", *pair, called="x")
                wires = {f"inner.{name}": name for name in "cba"}
                wires[f"inner.{given}"] = f"inner.{other}"
                wires.update({name: f"inner.{name}" for name in "qpsrt"})
                self.assertTrue(found == Diagram.parse(oracle.text_of(
                    "x", [name for name in "cba" if name != given], "qpsrt", [("inner", "wide")], wires)))

    def test_errors(self):
        library = library_of(COUNTER)
        self.assertEqual(self.raised(UnknownBlock, surrounding_for, library, "x", "a", "b", called="y"), {"name": "x"})
        self.assertEqual(self.raised(UnknownBlock, surrounding_for, Library(), "add", "out", "out", called="y"),
                         {"name": "add"})
        for first, second, name in (("x", "y", "x"), ("count", "y", "y"), ("x", "count", "x"), ("up", "up", "up"),
                                    ("total", "up", "up"), ("old", "old", "old")):
            self.assertEqual(self.raised(UnknownPort, surrounding_for, library, "counter", first, second, called="z"),
                             {"name": name})


class MergedTest(SurroundingCase):
    def test_counter(self):
        interface = library_of(COUNTER).compiled("counter").interface
        expected = (("up",), ("count", "total"), ((("count", "total"), ("up",)),))
        self.assertEqual(merged(interface, "count", "total"), expected)
        self.assertEqual(merged(interface=interface, first="total", second="count"), expected)
        self.assertEqual(merged(interface, "total", "total"), interface)
        self.assertEqual(interface, (("up",), ("count", "total"), ((("count",), ()), (("total",), ("up",)))))

    def test_orders(self):
        interface = (("c", "b", "a"), ("v", "w", "x", "y", "z"), (
            (("v",), ("b",)), (("w", "z"), ("a",)), (("x",), ("c", "b")), (("y",), ())))
        self.assertTrue(is_interface(interface))
        for first, second, profile in (
                ("z", "x", ((("v",), ("b",)), (("w", "x", "z"), ("c", "b", "a")), (("y",), ()))),
                ("x", "v", ((("v", "x"), ("c", "b")), (("w", "z"), ("a",)), (("y",), ()))),
                ("y", "w", ((("v",), ("b",)), (("w", "y", "z"), ("a",)), (("x",), ("c", "b")))),
                ("v", "z", ((("v", "w", "z"), ("b", "a")), (("x",), ("c", "b")), (("y",), ()))),
                ("w", "z", interface[2])):
            for pair in ((first, second), (second, first)):
                found = merged(interface, *pair)
                self.assertEqual(found, (*interface[:2], profile))
                self.assertTrue(is_interface(found))

    def test_steps_with_the_same_needs_stay_apart(self):
        interface = (("a", "b"), ("p", "q", "r"), ((("p",), ("a",)), (("q",), ("b",)), (("r",), ("a", "b"))))
        self.assertEqual(merged(interface, "p", "q")[2], ((("p", "q"), ("a", "b")), (("r",), ("a", "b"))))
        interface = (("a",), ("p", "q", "r"), ((("p",), ("a",)), (("q",), ("a",)), (("r",), ("a",))))
        self.assertEqual(merged(interface, "p", "r")[2], ((("p", "r"), ("a",)), (("q",), ("a",))))

    def test_some_diagram_is_refused_then(self):
        chance, tried = random.Random(31), 0
        while tried < 150:
            library, name = portcheck.random_library(chance, 2, 5, BLOCKS)
            interface, needs = library.compiled(name).interface, needs_of(library.compiled(name).interface)
            for first in interface[1]:
                for second in interface[1]:
                    found = surrounding_for(library, name, first, second, called="around")
                    joined = merged(interface, first, second)
                    self.assertTrue(is_interface(joined))
                    if needs[first] == needs[second]:
                        self.assertIs(found, None)
                        self.assertEqual(joined, interface)
                    else:
                        tried += 1
                        self.assertTrue(is_accepted(found, {name: interface}))
                        self.assertFalse(is_accepted(found, {name: joined}))


class ReplaceTest(SurroundingCase):
    def made(self):
        return library_of(
            block_text("old", "ab", {"p": "b", "q": "a", "r": ""}),
            block_text("fewer", "ba", {"r": "", "q": "", "p": "b"}),
            block_text("morep", "ab", {"p": "ab", "q": "a", "r": ""}),
            block_text("full", "ba", {"r": "ba", "q": "ba", "p": "ba"}),
            block_text("otherin", "ac", {"p": "", "q": "", "r": ""}),
            block_text("fewin", "a", {"p": "", "q": "", "r": ""}),
            block_text("morein", "abc", {"p": "", "q": "", "r": ""}),
            block_text("otherout", "ab", {"p": "", "q": "", "s": ""}),
            block_text("moreout", "ab", {"p": "", "q": "", "r": "", "s": ""}),
            block_text("fewout", "ab", {"p": "", "q": ""}))

    def test_can_replace(self):
        library = self.made()
        for old, new, expected in (("old", "fewer", True), ("fewer", "old", False), ("old", "old", True),
                                   ("old", "morep", False), ("morep", "old", True), ("old", "full", False),
                                   ("full", "old", True), ("full", "morep", True), ("fewer", "fewer", True)):
            self.assertIs(can_replace(library, old, new), expected, (old, new))
        self.assertIs(can_replace(library=library, old="old", new="fewer"), True)

    def test_other_ports(self):
        library = self.made()
        for name in ("otherin", "fewin", "morein", "otherout", "moreout", "fewout"):
            for pair in (("old", name), (name, "old")):
                self.assertEqual(self.raised(OtherPorts, can_replace, library, *pair), {})
                self.assertEqual(self.raised(OtherPorts, breaking, library, *pair, called="x"), {})

    def test_unknown_blocks(self):
        library = self.made()
        for old, new, name in (("x", "y", "x"), ("old", "y", "y"), ("x", "old", "x"), ("otherin", "y", "y"),
                               ("add", "old", "add"), ("old", "add", "add")):
            self.assertEqual(self.raised(UnknownBlock, can_replace, library, old, new), {"name": name})
            self.assertEqual(self.raised(UnknownBlock, breaking, library, old, new, called="z"), {"name": name})

    def test_breaking(self):
        library = self.made()
        names = library.names
        for old, new in (("old", "fewer"), ("morep", "old"), ("full", "fewer"), ("old", "old")):
            self.assertIs(breaking(library, old, new, called="x"), None)
        for old, new, output, given in (("old", "morep", "p", "a"), ("old", "full", "p", "a"), ("fewer", "old", "q", "a"),
                                        ("fewer", "full", "r", "b"), ("morep", "full", "q", "b")):
            found = breaking(library=library, old=old, new=new, called="brk")
            self.assertIsInstance(found, Diagram)
            diagram = library.diagram(old)
            wires = {f"inner.{name}": name for name in diagram.inputs}
            wires[f"inner.{given}"] = f"inner.{output}"
            wires.update({name: f"inner.{name}" for name in diagram.outputs})
            inputs = [name for name in diagram.inputs if name != given]
            self.assertTrue(found == Diagram.parse(oracle.text_of(
                "brk", inputs, diagram.outputs, [("inner", old)], wires)), str(found))
        self.assertEqual(library.names, names)
        with self.assertRaises(TypeError):
            breaking(library, "old", "full", "x")

    def test_what_the_diagrams_of_breaking_do(self):
        chance, more, same = random.Random(33), 0, 0
        while more < 100 or same < 100:
            inputs, outputs = "abc"[:chance.randrange(1, 4)], "pqr"[:chance.randrange(1, 4)]
            needs = [{output: "".join(name for name in inputs if chance.randrange(3) == 0) for output in outputs}
                     for _ in range(2)]
            turned = dict(sorted(needs[1].items(), key=lambda _: chance.random()))
            library = library_of(block_text("old", inputs, needs[0]), block_text("new", inputs[::-1], turned))
            faces = [library.compiled(name).interface for name in ("old", "new")]
            expected = all(set(needs[1][output]) <= set(needs[0][output]) for output in outputs)
            self.assertIs(can_replace(library, "old", "new"), expected)
            found = breaking(library, "old", "new", called="brk")
            if expected:
                same += 1
                self.assertIs(found, None)
                diagram = oracle.random_diagram(chance, "top", {"old": faces[0], "delay 0": Primitive.parse(
                    "delay 0").interface, "add": Primitive.parse("add").interface}, 4)
                if diagram and is_accepted(diagram, {"old": faces[0]}):
                    self.assertTrue(is_accepted(diagram, {"old": faces[1]}))
                    self.assertTrue(is_accepted(replaced(diagram, "old", "new"), {"new": faces[1]}))
            else:
                more += 1
                self.assertTrue(is_accepted(found, {"old": faces[0]}))
                self.assertFalse(is_accepted(found, {"old": faces[1]}))
                self.assertFalse(is_accepted(replaced(found, "old", "new"), {"new": faces[1]}))
                library.change([found], [])
                with self.assertRaises(Cycle):
                    library.change([replaced(found, "old", "new")], [])


class ReplacedTest(SurroundingCase):
    def test_parts_of_the_block(self):
        text = "block x(i; o)\n  part z = add\n  part a = counter\n  part add = add\n  part b = delay 3\n" \
               "  z.a <- i\n  z.b <- a.total\n  a.up <- b.out\n  add.a <- i\n  add.b <- i\n  b.in <- z.out\n" \
               "  o <- add.out\nend"
        diagram = Diagram.parse(text)
        for old, new in (("add", "sub"), ("counter", "other"), ("delay 3", "delay 4"), ("delay 3", "wire"),
                         ("counter", "const 7"), ("add", "x"), ("add", "add")):
            found = replaced(diagram, old, new)
            self.assertIsInstance(found, Diagram)
            self.assertEqual(str(found), text.replace(f"= {old}\n", f"= {new}\n"))
            self.assertEqual(str(diagram), text)
        self.assertEqual(replaced(diagram=diagram, old="add", new="mul").parts, (
            ("z", "mul"), ("a", "counter"), ("add", "mul"), ("b", "delay 3")))

    def test_blocks_that_are_not_there(self):
        diagram = Diagram.parse(COUNTER)
        for old in ("sub", "delay 1", "delay", "counter", "old", "sum"):
            self.assertTrue(replaced(diagram, old, "mul") == diagram)

    def test_nothing_is_put_into_the_library(self):
        library = library_of(COUNTER)
        library.change(diagrams_of(USER), [])
        found = replaced(library.diagram("user"), "counter", "other")
        self.assertEqual(found.parts, (("one", "other"),))
        self.assertEqual(library.diagram("user").parts, (("one", "counter"),))


if __name__ == "__main__":
    unittest.main()
