"""Diagrams and their text forms: points 4, 6 and 7."""

import random
import unittest
from unittest import mock

from samples import COUNTER
from stepblocks.blocks import Block, Diagram, Primitive
from stepblocks.errors import BlockError, InvalidText
from textcheck import wrong_row

TRIPLE = """block triple(x y; p q r)
  part z = two
  part a = pick
  part k = const 4294967295
  z.b <- x
  z.c <- a.out
  a.a <- k.out
  a.b <- y
  a.c <- z.u
  p <- x
  q <- z.w
  r <- k.out
end"""
LETTERS = "abcdefghijklmnopqrstuvwxyz"


class DiagramCase(unittest.TestCase):
    def refuse(self, text, row):
        with self.assertRaises(InvalidText, msg=text[:200]) as caught:
            Diagram.parse(text)
        self.assertEqual(caught.exception.row, row, text[:200])
        self.assertIsInstance(caught.exception, BlockError)
        self.assertIsInstance(caught.exception, ValueError)

    def accept(self, text):
        diagram = Diagram.parse(text)
        self.assertEqual(str(diagram), text)
        return diagram


class RightTextsTest(DiagramCase):
    def test_what_a_diagram_tells(self):
        diagram = self.accept(COUNTER)
        self.assertIsInstance(diagram, Diagram)
        self.assertIsInstance(diagram, Block)
        self.assertEqual((diagram.name, diagram.inputs, diagram.outputs), ("counter", ("up",), ("count", "total")))
        self.assertEqual(diagram.parts, (("old", "delay 0"), ("sum", "add")))
        self.assertEqual(diagram.wires, (
            (("old", "in"), ("sum", "out")), (("sum", "a"), ("old", "out")), (("sum", "b"), ("", "up")),
            (("", "count"), ("old", "out")), (("", "total"), ("sum", "out"))))
        for value in (diagram.inputs, diagram.outputs, diagram.parts, diagram.wires):
            self.assertIsInstance(value, tuple)

    def test_limits_are_told(self):
        self.assertEqual((Diagram.MAX_PORTS, Diagram.MAX_PARTS), (8, 16))
        self.assertEqual((self.accept(COUNTER).MAX_PORTS, self.accept(COUNTER).MAX_PARTS), (8, 16))

    def test_argument_by_name(self):
        self.assertEqual(str(Diagram.parse(text=COUNTER)), COUNTER)

    def test_heads_without_ports(self):
        none = self.accept("block none(;)\nend")
        self.assertEqual((none.inputs, none.outputs, none.parts, none.wires), ((), (), (), ()))
        self.assertEqual(self.accept("block one(; out)\nend").outputs, ("out",))
        self.assertEqual(self.accept("block in(a b;)\nend").inputs, ("a", "b"))

    def test_wires_in_any_order(self):
        chance = random.Random(7)
        for text in (COUNTER, TRIPLE):
            rows = text.split("\n")
            first = [row for row in rows if "<-" not in row][:-1]
            wires = [row for row in rows if "<-" in row]
            for _ in range(50):
                chance.shuffle(wires)
                diagram = Diagram.parse("\n".join([*first, *wires, "end"]))
                self.assertEqual(str(diagram), text)
                self.assertEqual(diagram.wires, Diagram.parse(text).wires)
                self.assertTrue(diagram == Diagram.parse(text))

    def test_order_of_wires_is_by_part_then_name_then_output(self):
        self.accept(TRIPLE)
        text = "block x(i; b a)\n  part z = q\n  part y = q\n  z.a <- i\n  z.aa <- i\n  z.b <- i\n  y.a <- i\n"
        self.accept(text + "  b <- i\n  a <- i\nend")

    def test_names_of_parts_may_be_those_of_ports_and_blocks(self):
        self.accept("block x(a; b)\n  part a = add\n  part b = add\n  part x = y\n  part add = x\n  part y = x\n"
                    "  a.a <- a\n  b.b <- b.out\n  x.x <- add.add\n  b <- a\nend")

    def test_names_of_ports_may_be_words(self):
        self.accept("block x(add x const; delay mul)\n  delay <- add\n  mul <- const\nend")

    def test_ports_of_parts_and_missing_wires_are_not_checked(self):
        self.accept("block x(a; b c)\n  part k = const 3\n  part s = add\n  k.in <- s.q\n  s.out <- k.out\n"
                    "  b <- s.zz\nend")
        self.accept("block x(a; b)\n  part s = add\nend")
        names = [f"  s.{letter} <- a" for letter in LETTERS]
        self.accept("\n".join(["block x(a; b)", "  part s = y", *names, "end"]))

    def test_eight_ports_and_sixteen_parts(self):
        inputs, outputs = " ".join("abcdefgh"), " ".join("ijklmnop")
        diagram = self.accept(f"block x({inputs}; {outputs})\nend")
        self.assertEqual((len(diagram.inputs), len(diagram.outputs)), (8, 8))
        parts = [f"  part {letter} = const 0" for letter in LETTERS[:16]]
        self.assertEqual(len(self.accept("\n".join(["block x(;)", *parts, "end"])).parts), 16)

    def test_names_of_eight_letters(self):
        self.accept("block abcdefgh(ijklmnop; zzzzzzzz)\n  part yyyyyyyy = xxxxxxxx\n"
                    "  yyyyyyyy.wwwwwwww <- ijklmnop\n  zzzzzzzz <- yyyyyyyy.vvvvvvvv\nend")

    def test_values_at_the_bounds(self):
        for word in ("const", "delay"):
            for value in (0, 1, 4294967295):
                self.accept(f"block x(;)\n  part k = {word} {value}\nend")


class WrongTextsTest(DiagramCase):
    def test_heads(self):
        for head in ("", " ", "block", "block ", "block x", "block x()", "block x( ;)", "block x(; )", "block x(;) ",
                     " block x(;)", "Block x(;)", "block  x(;)", "block x (;)", "block x(;", "block x;)", "block x(a)",
                     "block x(a;b)", "block x(a;  b)", "block x(a ; b)", "block x( a; b)", "block x(a  c; b)",
                     "block x(a; b )", "block x(a; b  c)", "block x(a; a)", "block x(a a; b)", "block x(; b b)",
                     "block X(;)", "block x1(;)", "block (;)", "block x(A;)", "block x(a,b;)", "block x(;;)",
                     "block x((;)", "block x(;))", "block x(a; b;)", "block x(;)end", "end", "  part a = add",
                     "block block x(;)", "blockx(;)", "x(;)", "block x(;)\r", "block x(\t;)", "block x(a; .b)"):
            self.refuse(head + "\nend", 0)

    def test_names_in_heads(self):
        for name in ("block", "part", "end", "self", "abcdefghi", "a" * 9, "a" * 100000):
            self.refuse(f"block {name}(;)\nend", 0)
            self.refuse(f"block x({name};)\nend", 0)
            self.refuse(f"block x(; {name})\nend", 0)
        for word in ("const", "add", "sub", "mul", "less", "equal", "pick", "divide", "delay"):
            self.refuse(f"block {word}(;)\nend", 0)

    def test_nine_ports(self):
        nine = " ".join("abcdefghi")
        self.refuse(f"block x({nine};)\nend", 0)
        self.refuse(f"block x(; {nine})\nend", 0)
        self.refuse(f"block x({nine}; j)\nend", 0)

    def test_parts(self):
        for row in ("part a = add", " part a = add", "   part a = add", "  part a = add ", "  part a  = add",
                    "  part  a = add", "  part a =  add", "  part a= add", "  part a =add", "  part a == add",
                    "  part a = ", "  part a =", "  part a", "  part", "  part ", "  part = add", "  part a b = add",
                    "  part A = add", "  part a1 = add", "  part a = Add", "  part a = const", "  part a = delay",
                    "  part a = add 1", "  part a = const 01", "  part a = const 4294967296", "  part a = const -1",
                    "  part a = delay +1", "  part a = const  1", "  part a = x y", "  part a = x 1", "  Part a = add",
                    "  part a.b = add", "  part a = b.c", "", "end ", " end", "END", "  end", "\tpart a = add"):
            self.refuse(f"block x(;)\n{row}\nend", 1)

    def test_names_in_parts(self):
        for name in ("block", "part", "end", "self", "abcdefghi"):
            self.refuse(f"block x(;)\n  part {name} = add\nend", 1)
            self.refuse(f"block x(;)\n  part a = {name}\nend", 1)

    def test_digits_by_the_hundred_thousand(self):
        for sign in "019":
            self.refuse("block x(;)\n  part a = const 1\n  part b = delay " + sign * 150000 + "\nend", 2)

    def test_seventeen_parts(self):
        parts = [f"  part {letter} = const 0" for letter in LETTERS[:17]]
        self.refuse("\n".join(["block x(;)", *parts, "end"]), 17)

    def test_parts_of_the_same_name(self):
        self.refuse("block x(;)\n  part a = add\n  part b = add\n  part a = sub\nend", 3)

    def test_part_behind_a_wire(self):
        self.refuse("block x(i; o)\n  part a = y\n  o <- i\n  part b = y\nend", 3)

    def test_wires(self):
        for row in ("o <- i", " o <- i", "   o <- i", "  o <- i ", "  o<- i", "  o <-i", "  o  <- i", "  o <-  i",
                    "  o - i", "  o -> i", "  o <- ", "  o <-", "  o", "  ", "   <- i", "  <- i", "  i <- o",
                    "  o <- o", "  i <- i", "  z <- i", "  o <- z", "  o <- b.out", "  b.a <- i", "  o <- a", "  a <- i",
                    "  o <- a.", "  o <- .i", "  a. <- i", "  .o <- i", "  o <- a.b.c", "  a.b.c <- i", "  o <- a.OUT",
                    "  o <- a.o1", "  a.abcdefghi <- i", "  o <- a.abcdefghi", "  o <- i <- i", "  o <- a .out",
                    "  o <- a. out", "  x.o <- i", "  self.o <- i", "  o <- self.i"):
            self.refuse(f"block x(i; o)\n  part a = add\n{row}\nend", 2)

    def test_reserved_words_in_wires(self):
        for name in ("block", "part", "end", "self"):
            self.refuse(f"block x(i; o)\n  part a = add\n  a.{name} <- i\nend", 2)
            self.refuse(f"block x(i; o)\n  part a = add\n  o <- a.{name}\nend", 2)
            self.refuse(f"block x(i; o)\n  part a = add\n  {name} <- i\nend", 2)

    def test_two_wires_to_one_target(self):
        self.refuse("block one(a; b)\n  b <- a\n  b <- a\nend", 2)
        self.refuse("block one(a c; b)\n  part s = add\n  s.a <- a\n  b <- a\n  s.a <- c\nend", 4)

    def test_last_row(self):
        self.refuse("block x(;)", 1)
        self.refuse("block x(i; o)\n  o <- i", 2)
        self.refuse("block x(;)\n", 1)
        self.refuse("block x(;)\nend\n", 2)
        self.refuse("block x(;)\nend\nend", 2)
        self.refuse("block x(;)\nend\n\n", 2)
        self.refuse(COUNTER + "\n" + COUNTER, 9)
        self.refuse("\n" + COUNTER, 0)
        self.refuse(COUNTER.replace("\n", "\r\n"), 0)

    def test_the_first_of_several_faults_counts(self):
        self.refuse("block x(;)\n  part a = 1\n  part b = 2\nfin", 1)
        self.refuse("block X(;)\n  part a = 1", 0)
        self.refuse("block x(i; o)\n  part a = add\n  o <- z\n  o <- i\n  o <- i", 2)

    def test_long_texts(self):
        self.refuse("a" * 200000, 0)
        self.refuse("\n" * 200000, 0)
        self.refuse("block x(" + "a " * 90000 + ";)", 0)
        self.refuse("block x(;)\n" + "  " * 90000, 1)
        self.refuse("block x(;)\nend" + "\nend" * 40000, 2)

    def test_changed_texts_against_a_second_reader(self):
        chance = random.Random(11)
        signs = " .=<-();\nabend01pzt"
        refused = 0
        for _ in range(6000):
            text = chance.choice((COUNTER, TRIPLE, "block none(;)\nend", "block one(; out)\nend"))
            for _ in range(chance.randrange(3)):
                at = chance.randrange(len(text) + 1)
                text = text[:at] + chance.choice(signs) * chance.randrange(2) + text[at + chance.randrange(2):]
            rows = text.split("\n")
            if chance.randrange(2):
                at, to = chance.randrange(len(rows)), chance.randrange(len(rows) + 1)
                rows.insert(to, rows[at])
            if not chance.randrange(4):
                del rows[chance.randrange(len(rows))]
            text = "\n".join(rows)
            row = wrong_row(text)
            if row is None:
                again = str(Diagram.parse(text))
                self.assertEqual(sorted(again.split("\n")), sorted(text.split("\n")))
            else:
                refused += 1
                self.refuse(text, row)
        self.assertGreater(refused, 2000)
        self.assertLess(refused, 5900)


class EqualTest(DiagramCase):
    def test_equal_texts(self):
        self.assertTrue(Diagram.parse(COUNTER) == Diagram.parse(COUNTER))
        self.assertFalse(Diagram.parse(COUNTER) != Diagram.parse(COUNTER))

    def test_other_texts(self):
        changes = (("delay 0", "delay 1"), ("counter", "count"), ("old", "new"), ("sum.b <- up", "sum.b <- old.out"),
                   ("= add", "= sub"), ("count total)", "total count)"))
        for old, new in changes:
            one, other = Diagram.parse(COUNTER), Diagram.parse(COUNTER.replace(old, new))
            self.assertFalse(one == other)
            self.assertTrue(one != other)
        text = "block x(;)\n  part a = add\n  part b = sub\nend"
        turned = "block x(;)\n  part b = sub\n  part a = add\nend"
        self.assertTrue(Diagram.parse(text) != Diagram.parse(turned))

    def test_no_other_value_is_equal(self):
        diagram = Diagram.parse(COUNTER)
        block = Block(diagram.name, diagram.inputs, diagram.outputs)
        for value in (COUNTER, None, 0, True, (), [], {}, Primitive.parse("add"), block, mock.ANY):
            self.assertFalse(diagram == value)
            self.assertTrue(diagram != value)

    def test_diagrams_do_not_change(self):
        diagram = Diagram.parse(TRIPLE)
        told = (diagram.name, diagram.inputs, diagram.outputs, diagram.parts, diagram.wires, str(diagram))
        Diagram.parse(COUNTER)
        again = (diagram.name, diagram.inputs, diagram.outputs, diagram.parts, diagram.wires, str(diagram))
        self.assertEqual(told, again)


if __name__ == "__main__":
    unittest.main()
