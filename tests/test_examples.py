"""The examples of the document for what has landed, as they stand there."""

import unittest

EXAMPLES = [
    r"""
>>> from stepblocks.blocks import Primitive
>>> [Primitive.parse("sub").compute((3, 5)), Primitive.parse("delay 7").interface]
[(4294967294,), (('in',), ('out',), ((('out',), ()),))]
""",
    r"""
>>> from stepblocks.blocks import Diagram
>>> text = "block counter(up; count total)\n  part old = delay 0\n  part sum = add\n  old.in <- sum.out\n  sum.a <- old.out\n  sum.b <- up\n  count <- old.out\n  total <- sum.out\nend"
>>> diagram = Diagram.parse(text)
>>> [diagram.parts, diagram.wires[0], str(diagram) == text]
[(('old', 'delay 0'), ('sum', 'add')), (('old', 'in'), ('sum', 'out')), True]
""",
    r"""
>>> from stepblocks.blocks import Diagram
>>> Diagram.parse("block one(a; b)\n  b <- a\n  b <- a\nend")
raises InvalidText(row=2)
""",
    r"""
>>> from stepblocks.blocks import Diagram
>>> from stepblocks.compiling import compile_diagram
>>> text = "block counter(up; count total)\n  part old = delay 0\n  part sum = add\n  old.in <- sum.out\n  sum.a <- old.out\n  sum.b <- up\n  count <- old.out\n  total <- sum.out\nend"
>>> compiled = compile_diagram(Diagram.parse(text), {})
>>> [compiled.profile, compiled.steps[0], compiled.end[1][0]]
[((('count',), ()), (('total',), ('up',))), ((('old', 0, ()),), (('count', ('old', 'out')),)), ('old', 'in', ('sum', 'out'))]
""",
    r"""
>>> from stepblocks.blocks import Diagram
>>> from stepblocks.compiling import compile_diagram
>>> diagram = Diagram.parse("block loop(; o)\n  part w = wire\n  w.i <- w.o\n  o <- w.o\nend")
>>> compile_diagram(diagram, {"wire": (("i",), ("o",), ((("o",), ("i",)),))})
raises Cycle(name='loop', cycle=[('w', 0)])
""",
    r"""
>>> from stepblocks.blocks import Diagram
>>> from stepblocks.library import Library
>>> library = Library()
>>> text = "block counter(up; count total)\n  part old = delay 0\n  part sum = add\n  old.in <- sum.out\n  sum.a <- old.out\n  sum.b <- up\n  count <- old.out\n  total <- sum.out\nend"
>>> user = "block user(; x)\n  part one = counter\n  one.up <- one.count\n  x <- one.total\nend"
>>> first = library.change([Diagram.parse(user), Diagram.parse(text)], [])
>>> second = library.change([Diagram.parse(text.replace("delay 0", "delay 1"))], [])
>>> [first, second, library.names]
[('counter', 'user'), ('counter',), ('counter', 'user')]
""",
    r"""
>>> from stepblocks.library import Library
>>> from stepblocks.machine import Runner
>>> text = "block counter(up; count total)\n  part old = delay 0\n  part sum = add\n  old.in <- sum.out\n  sum.a <- old.out\n  sum.b <- up\n  count <- old.out\n  total <- sum.out\nend"
>>> runner = Runner(Library.parse(text), "counter")
>>> first = runner.step(3)
>>> second = runner.step_row([4])
>>> [first, second, runner.state]
[(0, 3), (3, 7), {('old',): 7}]
""",
    r"""
>>> from stepblocks.library import Library
>>> from stepblocks.machine import Runner
>>> text = "block counter(up; count total)\n  part old = delay 0\n  part sum = add\n  old.in <- sum.out\n  sum.a <- old.out\n  sum.b <- up\n  count <- old.out\n  total <- sum.out\nend"
>>> instant = Runner(Library.parse(text), "counter").begin()
>>> count = instant.read("count")
>>> ready = instant.ready
>>> done = instant.give("up", 5)
>>> [count, ready, instant.read("total"), instant.ready]
[0, ('count',), 5, ('count', 'total')]
""",
    r"""
>>> from stepblocks.library import Library
>>> from stepblocks.surroundings import surrounding_for
>>> text = "block counter(up; count total)\n  part old = delay 0\n  part sum = add\n  old.in <- sum.out\n  sum.a <- old.out\n  sum.b <- up\n  count <- old.out\n  total <- sum.out\nend"
>>> str(surrounding_for(Library.parse(text), "counter", "total", "count", called="around"))
'block around(; count total)\n  part inner = counter\n  inner.up <- inner.count\n  count <- inner.count\n  total <- inner.total\nend'
""",
    r"""
>>> from stepblocks.nets import Net
>>> total = (("sum",), "out")
>>> wires = (((("old",), "in"), total), ((("sum",), "a"), (("old",), "out")), ((("sum",), "b"), ((), "up")), (((), "total"), total))
>>> net = Net(("up",), ("total",), ((("old",), "delay 0"), (("sum",), "add")), wires)
>>> [net([(3,), (4,)]), len(net), ("old",) in net]
[[(3,), (7,)], 2, True]
""",
    r"""
>>> from stepblocks.nets import Net
>>> from stepblocks.readings import parting, walk_from
>>> wires = (((("p",), "in"), ((), "x")), ((("q",), "in"), (("p",), "out")))
>>> net = Net(("x",), (), ((("p",), "delay 1"), (("q",), "delay 1")), wires)
>>> [parting(net, (("p",), "out"), net, (("q",), "out")), walk_from(net, (("q",), "out"), 2, [])]
[(1, []), ([], ('input', 'x', 0))]
""",
]


def answer_of(statements, question):
    """Return what the document would print for the question behind the statements."""
    names = {}
    for statement in statements:
        exec(statement, names)
    try:
        return repr(eval(question, names))
    except ValueError as error:
        told = ", ".join(f"{name}={value!r}" for name, value in vars(error).items())
        return f"raises {error.__class__.__name__}({told})"


class ExamplesTest(unittest.TestCase):
    def test_examples(self):
        for example in EXAMPLES:
            *lines, expected = example.strip().split("\n")
            self.assertTrue(all(line.startswith(">>> ") for line in lines))
            *statements, question = [line[4:] for line in lines]
            self.assertEqual(answer_of(statements, question), expected)

    def test_example_of_point_seven(self):
        from stepblocks.blocks import Diagram
        text = """
block counter(up; count total)
  part old = delay 0
  part sum = add
  old.in <- sum.out
  sum.a <- old.out
  sum.b <- up
  count <- old.out
  total <- sum.out
end
"""
        self.assertEqual(str(Diagram.parse(text.strip("\n"))), text.strip("\n"))
        self.assertEqual(Diagram.parse("block one(; out)\nend").outputs, ("out",))
        self.assertEqual(Diagram.parse("block none(;)\nend").outputs, ())


if __name__ == "__main__":
    unittest.main()
