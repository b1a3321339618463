"""Names, values and primitives: points 4, 5 and 9."""

import random
import re
import unittest

from stepblocks.blocks import Block, Primitive
from stepblocks.errors import BlockError, InvalidText

TOP = 2 ** 32 - 1
PORTS = {
    "add": (("a", "b"), ("out",)), "sub": (("a", "b"), ("out",)), "mul": (("a", "b"), ("out",)),
    "less": (("a", "b"), ("out",)), "equal": (("a", "b"), ("out",)), "pick": (("c", "a", "b"), ("out",)),
    "divide": (("a", "b"), ("quotient", "rest")),
}
EDGES = (0, 1, 2, 3, 65535, 65536, 65537, 2 ** 31 - 1, 2 ** 31, 2 ** 31 + 1, TOP - 1, TOP)


def is_text_of_primitive(text):
    if re.fullmatch("add|sub|mul|less|equal|pick|divide", text):
        return True
    found = re.fullmatch("(?:const|delay) (0|[1-9][0-9]*)", text)
    return bool(found) and len(found[1]) <= 10 and int(found[1]) <= TOP


class ParseTest(unittest.TestCase):
    def refuse(self, text):
        with self.assertRaises(InvalidText, msg=repr(text[:50])) as caught:
            Primitive.parse(text)
        self.assertEqual(caught.exception.row, 0)
        self.assertIsInstance(caught.exception, BlockError)
        self.assertIsInstance(caught.exception, ValueError)

    def test_words_without_value(self):
        for word, (inputs, outputs) in PORTS.items():
            block = Primitive.parse(word)
            self.assertIsInstance(block, Primitive)
            self.assertIsInstance(block, Block)
            self.assertEqual((block.name, block.inputs, block.outputs), (word, inputs, outputs))
            self.assertIs(block.constant, None)
            self.assertEqual(str(block), word)
            self.assertEqual(block.interface, (inputs, outputs, ((outputs, inputs),)))

    def test_words_with_value(self):
        for value in (0, 1, 9, 10, 101, 999999999, 4294967294, TOP):
            block = Primitive.parse(f"const {value}")
            self.assertEqual((block.name, block.inputs, block.outputs), ("const", (), ("out",)))
            self.assertEqual((block.constant, str(block)), (value, f"const {value}"))
            self.assertEqual(block.interface, ((), ("out",), ((("out",), ()),)))
            block = Primitive.parse(f"delay {value}")
            self.assertEqual((block.name, block.inputs, block.outputs), ("delay", ("in",), ("out",)))
            self.assertEqual((block.constant, str(block)), (value, f"delay {value}"))
            self.assertEqual(block.interface, (("in",), ("out",), ((("out",), ()),)))

    def test_argument_by_name(self):
        self.assertEqual(Primitive.parse(text="const 3").constant, 3)

    def test_wrong_values(self):
        for word in ("const", "delay"):
            for rest in ("", " ", " 4294967296", " 4294967300", " 9999999999", " 10000000000", " 00", " 01",
                         " 007", " 04294967295", " -1", " +1", " -0", "  1", " 1 ", " 1 1", " 1\n", "\n1", "1",
                         " 1.0", " 0x1", " 1_000", " a", " 1e3", " 1,0", "\t1"):
                self.refuse(word + rest)

    def test_wrong_words(self):
        for text in ("", " ", "\n", "adds", "Add", "ADD", "ad", "add ", " add", "add 1", "add 0", "add\n", "\nadd",
                     "add\nadd", "divide 2", "block", "part", "end", "self", "counter", "constant 1", "7", "1 const",
                     "const=1", "delay(0)"):
            self.refuse(text)

    def test_very_many_digits(self):
        for many in (11, 4300, 4301, 100000, 199990):
            for sign in "019":
                self.refuse("const " + sign * many)
                self.refuse("delay " + sign * many)
        self.refuse("9" * 200000)

    def test_every_short_change_of_a_text(self):
        signs = " 0159-\nadelyconst"
        chance = random.Random(5)
        texts = [*PORTS, "const 0", "const 4294967295", "delay 10", "delay 4294967289"]
        for _ in range(4000):
            text = chance.choice(texts)
            at = chance.randrange(len(text) + 1)
            text = text[:at] + chance.choice(signs) * chance.randrange(2) + text[at + chance.randrange(2):]
            if is_text_of_primitive(text):
                self.assertEqual(str(Primitive.parse(text)), text)
            else:
                self.refuse(text)


class ComputeTest(unittest.TestCase):
    def check(self, text, values, outputs):
        found = Primitive.parse(text).compute(values)
        self.assertIsInstance(found, tuple)
        self.assertEqual(found, outputs, (text, values))
        self.assertTrue(all(type(value) is int for value in found))

    def test_rules_at_the_edges(self):
        for a in EDGES:
            for b in EDGES:
                self.check("add", (a, b), ((a + b) % 2 ** 32,))
                self.check("sub", (a, b), ((a - b) % 2 ** 32,))
                self.check("mul", (a, b), ((a * b) % 2 ** 32,))
                self.check("less", (a, b), (int(a < b),))
                self.check("equal", (a, b), (int(a == b),))
                self.check("divide", (a, b), (a // b, a % b) if b else (0, a))
                for c in EDGES:
                    self.check("pick", (c, a, b), (a if c else b,))

    def test_written_out_cases(self):
        self.check("add", (TOP, 1), (0,))
        self.check("add", (TOP, TOP), (TOP - 1,))
        self.check("sub", (3, 5), (TOP - 1,))
        self.check("sub", (0, TOP), (1,))
        self.check("mul", (65536, 65536), (0,))
        self.check("mul", (TOP, TOP), (1,))
        self.check("less", (4, 4), (0,))
        self.check("less", (2 ** 31, 2 ** 31 - 1), (0,))
        self.check("pick", (0, 7, 8), (8,))
        self.check("pick", (1, 7, 8), (7,))
        self.check("pick", (TOP, 7, 8), (7,))
        self.check("divide", (17, 5), (3, 2))
        self.check("divide", (17, 0), (0, 17))
        self.check("divide", (0, 0), (0, 0))

    def test_const(self):
        for value in EDGES:
            self.check(f"const {value}", (), (value,))

    def test_blocks_do_not_change(self):
        block = Primitive.parse("divide")
        first = (block.compute((7, 2)), block.interface, str(block), block.name, block.inputs, block.outputs)
        block.compute((9, 0))
        Primitive.parse("const 4").compute(())
        again = (block.compute((7, 2)), block.interface, str(block), block.name, block.inputs, block.outputs)
        self.assertEqual(first, again)
        self.assertEqual(first[0], (3, 1))

    def test_arguments_by_name(self):
        self.assertEqual(Primitive.parse("add").compute(values=(1, 2)), (3,))


if __name__ == "__main__":
    unittest.main()
