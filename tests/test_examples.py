"""The examples of the document, as they stand there."""

import unittest

EXAMPLES = [
    r"""
>>> from stepblocks.blocks import Primitive
>>> [Primitive.parse("sub").compute((3, 5)), Primitive.parse("delay 7").interface]
[(4294967294,), (('in',), ('out',), ((('out',), ()),))]
""",
    r"""
>>> from stepblocks.blocks import Diagram
>>> text = "block counter(up; count total)\n  part old = delay 0\n  part sum = add\n  old.in <- sum.out\n  sum.a <- old.out\n  sum.b <- up\n  count <- old.out\n  total <- sum.out\nend"
>>> diagram = Diagram.parse(text)
>>> [diagram.parts, diagram.wires[0], str(diagram) == text]
[(('old', 'delay 0'), ('sum', 'add')), (('old', 'in'), ('sum', 'out')), True]
""",
    r"""
>>> from stepblocks.blocks import Diagram
>>> Diagram.parse("block one(a; b)\n  b <- a\n  b <- a\nend")
raises InvalidText(row=2)
""",
    r"""
>>> from stepblocks.blocks import Diagram
>>> from stepblocks.compiling import compile_diagram
>>> text = "block counter(up; count total)\n  part old = delay 0\n  part sum = add\n  old.in <- sum.out\n  sum.a <- old.out\n  sum.b <- up\n  count <- old.out\n  total <- sum.out\nend"
>>> compiled = compile_diagram(Diagram.parse(text), {})
>>> [compiled.profile, compiled.steps[0], compiled.end[1][0]]
[((('count',), ()), (('total',), ('up',))), ((('old', 0, ()),), (('count', ('old', 'out')),)), ('old', 'in', ('sum', 'out'))]
""",
    r"""
>>> from stepblocks.blocks import Diagram
>>> from stepblocks.compiling import compile_diagram
>>> diagram = Diagram.parse("block loop(; o)\n  part w = wire\n  w.i <- w.o\n  o <- w.o\nend")
>>> compile_diagram(diagram, {"wire": (("i",), ("o",), ((("o",), ("i",)),))})
raises Cycle(name='loop', cycle=[('w', 0)])
""",
    r"""
>>> from stepblocks.blocks import Diagram
>>> from stepblocks.library import Library
>>> library = Library()
>>> text = "block counter(up; count total)\n  part old = delay 0\n  part sum = add\n  old.in <- sum.out\n  sum.a <- old.out\n  sum.b <- up\n  count <- old.out\n  total <- sum.out\nend"
>>> user = "block user(; x)\n  part one = counter\n  one.up <- one.count\n  x <- one.total\nend"
>>> first = library.change([Diagram.parse(user), Diagram.parse(text)], [])
>>> second = library.change([Diagram.parse(text.replace("delay 0", "delay 1"))], [])
>>> [first, second, library.names]
[('counter', 'user'), ('counter',), ('counter', 'user')]
""",
    r"""
>>> from stepblocks.library import Library
>>> from stepblocks.machine import Runner
>>> text = "block counter(up; count total)\n  part old = delay 0\n  part sum = add\n  old.in <- sum.out\n  sum.a <- old.out\n  sum.b <- up\n  count <- old.out\n  total <- sum.out\nend"
>>> runner = Runner(Library.parse(text), "counter")
>>> first = runner.step(3)
>>> second = runner.step_row([4])
>>> [first, second, runner.state]
[(0, 3), (3, 7), {('old',): 7}]
""",
    r"""
>>> from stepblocks.library import Library
>>> from stepblocks.machine import Runner
>>> text = "block counter(up; count total)\n  part old = delay 0\n  part sum = add\n  old.in <- sum.out\n  sum.a <- old.out\n  sum.b <- up\n  count <- old.out\n  total <- sum.out\nend"
>>> instant = Runner(Library.parse(text), "counter").begin()
>>> count = instant.read("count")
>>> ready = instant.ready
>>> done = instant.give("up", 5)
>>> [count, ready, instant.read("total"), instant.ready]
[0, ('count',), 5, ('count', 'total')]
""",
    r"""
>>> from stepblocks.library import Library
>>> from stepblocks.surroundings import surrounding_for
>>> text = "block counter(up; count total)\n  part old = delay 0\n  part sum = add\n  old.in <- sum.out\n  sum.a <- old.out\n  sum.b <- up\n  count <- old.out\n  total <- sum.out\nend"
>>> str(surrounding_for(Library.parse(text), "counter", "total", "count", called="around"))
'block around(; count total)\n  part inner = counter\n  inner.up <- inner.count\n  count <- inner.count\n  total <- inner.total\nend'
""",
    r"""
>>> from stepblocks.nets import Net
>>> total = (("sum",), "out")
>>> wires = (((("old",), "in"), total), ((("sum",), "a"), (("old",), "out")), ((("sum",), "b"), ((), "up")), (((), "total"), total))
>>> net = Net(("up",), ("total",), ((("old",), "delay 0"), (("sum",), "add")), wires)
>>> [net([(3,), (4,)]), len(net), ("old",) in net]
[[(3,), (7,)], 2, True]
""",
    r"""
>>> from stepblocks.nets import Net
>>> from stepblocks.readings import parting, walk_from
>>> wires = (((("p",), "in"), ((), "x")), ((("q",), "in"), (("p",), "out")))
>>> net = Net(("x",), (), ((("p",), "delay 1"), (("q",), "delay 1")), wires)
>>> [parting(net, (("p",), "out"), net, (("q",), "out")), walk_from(net, (("q",), "out"), 2, [])]
[(1, []), ([], ('input', 'x', 0))]
""",
    r"""
>>> from stepblocks.least import least_net, needed_parts, part_classes
>>> from stepblocks.nets import Net
>>> wires = (((("p",), "in"), (("k",), "out")), ((("q",), "in"), (("q",), "out")), (((), "o"), (("p",), "out")))
>>> net = Net((), ("o",), ((("k",), "const 2"), (("p",), "delay 2"), (("q",), "delay 3")), wires)
>>> [part_classes(net), needed_parts(net), len(least_net(net))]
[[[('k',), ('p',)], [('q',)]], [('p',)], 1]
""",
    r"""
>>> from stepblocks.lines import line_of, moved_net
>>> from stepblocks.nets import Net
>>> wires = (((("d",), "in"), ((), "x")), ((("s",), "a"), (("d",), "out")), ((("s",), "b"), (("k",), "out")), (((), "o"), (("s",), "out")))
>>> net = Net(("x",), ("o",), ((("d",), "delay 3"), (("k",), "const 4"), (("s",), "add")), wires)
>>> moved = moved_net(net, {("s",): 1})
>>> [line_of(net, (("s",), "a")), line_of(moved, (("s",), "a")), line_of(moved, ((), "o"))]
[(((), 'x'), [3]), (((), 'x'), []), ((('s',), 'out'), [7])]
""",
    r"""
>>> from stepblocks.nets import Net
>>> from stepblocks.periods import is_bar, least_moves, least_period, period
>>> d, m, s = (("d",), "out"), (("m",), "out"), (("s",), "out")
>>> wires = (((("d",), "in"), ((), "x")), ((("m",), "a"), d), ((("m",), "b"), d), ((("s",), "a"), m), ((("s",), "b"), d), (((), "o"), s))
>>> net = Net(("x",), ("o",), ((("d",), "delay 0"), (("m",), "mul"), (("s",), "add")), wires)
>>> costs = {"add": 1, "sub": 1, "mul": 5, "less": 1, "equal": 1, "pick": 1, "divide": 9}
>>> [period(net, costs=costs), least_period(net, costs=costs), sorted(least_moves(net, costs=costs, bound=5).items()), is_bar(net, [(m, ())], costs=costs, bound=4)]
[6, 5, [(('m',), 1), (('s',), 0)], True]
""",
    r"""
>>> from stepblocks.counts import count_delays, fewest_delays, shown_by
>>> from stepblocks.nets import Net
>>> d, m, s = (("d",), "out"), (("m",), "out"), (("s",), "out")
>>> wires = (((("d",), "in"), ((), "x")), ((("m",), "a"), d), ((("m",), "b"), d), ((("s",), "a"), m), ((("s",), "b"), d), (((), "o"), s))
>>> net = Net(("x",), ("o",), ((("d",), "delay 0"), (("m",), "mul"), (("s",), "add")), wires)
>>> costs = {"add": 1, "sub": 1, "mul": 5, "less": 1, "equal": 1, "pick": 1, "divide": 9}
>>> found = [count_delays(net)] + [sorted(fewest_delays(net, costs=costs, bound=bound).items()) for bound in (6, 5)]
>>> found + [shown_by(net, [(2, (((), "x"), ((("m",), "a"),))), (1, (m, ((("s",), "a"),)))], costs=costs, bound=5)]
[3, [(('m',), 1), (('s',), 1)], [(('m',), 1), (('s',), 0)], 2]
""",
    r"""
>>> from stepblocks.linear import first_history, state_at
>>> from stepblocks.nets import Net
>>> total = (("sum",), "out")
>>> wires = (((("old",), "in"), total), ((("sum",), "a"), (("old",), "out")), ((("sum",), "b"), ((), "up")), (((), "total"), total))
>>> net = Net(("up",), ("total",), ((("old",), "delay 0"), (("sum",), "add")), wires)
>>> other = Net(("up",), ("total",), ((("old",), "delay 1"), (("sum",), "add")), wires)
>>> [len(first_history(net, other)), state_at(net, (3,), 10**9)]
[1, {('old',): 3000000000}]
""",
    r"""
>>> from stepblocks.nets import Net
>>> from stepblocks.small import history_to, least_machine
>>> wires = (((("t",), "in"), (("n",), "out")), ((("n",), "a"), (("t",), "out")), ((("n",), "b"), ((), "x")), (((), "o"), (("n",), "out")))
>>> net = Net(("x",), ("o",), ((("t",), "delay 0"), (("n",), "equal")), wires)
>>> [history_to(net, {"x": [0, 1]}, "o", [0]), least_machine(net, {"x": [0, 1]})]
[[(1,)], [[((1,), 1), ((0,), 0)], [((0,), 0), ((1,), 1)]]]
""",
    r"""
>>> from stepblocks.netruns import NetRun
>>> from stepblocks.nets import Net
>>> wires = (((("d",), "in"), ((), "x")), ((("s",), "a"), (("d",), "out")), ((("s",), "b"), (("k",), "out")), (((), "o"), (("s",), "out")))
>>> run = NetRun(Net(("x",), ("o",), ((("d",), "delay 3"), (("k",), "const 4"), (("s",), "add")), wires))
>>> first = run.go((5,))
>>> run.lead(("s",))
>>> [first, run.go((6,)), run.leads()]
[(7,), (9,), {('s',): 1}]
""",
]


def answer_of(statements, question):
    """Return what the document would print for the question behind the statements."""
    names = {}
    for statement in statements:
        exec(statement, names)
    try:
        return repr(eval(question, names))
    except ValueError as error:
        told = ", ".join(f"{name}={value!r}" for name, value in vars(error).items())
        return f"raises {error.__class__.__name__}({told})"


class ExamplesTest(unittest.TestCase):
    def test_examples(self):
        for example in EXAMPLES:
            *lines, expected = example.strip().split("\n")
            self.assertTrue(all(line.startswith(">>> ") for line in lines))
            *statements, question = [line[4:] for line in lines]
            self.assertEqual(answer_of(statements, question), expected)

    def test_example_of_point_seven(self):
        from stepblocks.blocks import Diagram
        text = """
block counter(up; count total)
  part old = delay 0
  part sum = add
  old.in <- sum.out
  sum.a <- old.out
  sum.b <- up
  count <- old.out
  total <- sum.out
end
"""
        self.assertEqual(str(Diagram.parse(text.strip("\n"))), text.strip("\n"))
        self.assertEqual(Diagram.parse("block one(; out)\nend").outputs, ("out",))
        self.assertEqual(Diagram.parse("block none(;)\nend").outputs, ())


if __name__ == "__main__":
    unittest.main()
