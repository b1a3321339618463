"""Points 2, 11 to 13, for many edits that are put together by chance (always the same ones)."""

import random
import unittest

import libcheck
import oracle
from stepblocks.blocks import Primitive
from stepblocks.errors import BadDiagram, BlockError, Cycle, Recursion, UnknownBlock
from stepblocks.library import Library

NAMES = ("one", "two", "three", "four", "five")
PRIMITIVES = ("const 3", "add", "less", "pick", "divide", "delay 0", "delay 4294967295")
KNOWN = {text: Primitive.parse(text).interface for text in PRIMITIVES}


def told(library):
    return [str(library), library.names, library.rebuilt, tuple(library.build_order()),
            [library.compiled(name) for name in library.names]]


class RandomEditsTest(unittest.TestCase):
    def random_put(self, chance, diagrams):
        """Return a diagram whose parts are those of the library, mostly older than it."""
        name = chance.choice(NAMES)
        blocks = {block: libcheck.interface_of(diagrams, block)[:2] for block in diagrams
                  if block != name and chance.randrange(3)}
        if not chance.randrange(12):
            blocks["six"] = (("a",), ("p",))
        if not chance.randrange(12):
            blocks[name] = (("a",), ("p",))
        if not blocks or chance.randrange(2):
            blocks.update(chance.sample(list(KNOWN.items()), 4))
        return oracle.random_diagram(chance, name, blocks, 4)

    def same_ports(self, chance, diagrams):
        """Return a diagram with the ports of one of the library and other insides."""
        name = chance.choice(sorted(diagrams))
        old = diagrams[name]
        sources = [*old.inputs, "k.out", "d.out"]
        wires = {"d.in": chance.choice(sources), **{output: chance.choice(sources) for output in old.outputs}}
        parts = [("k", f"const {chance.randrange(3)}"), ("d", "delay 1")]
        return type(old).parse(oracle.text_of(name, old.inputs, old.outputs, parts, wires))

    def expected(self, diagrams):
        """Return the kind of error that an edit to these diagrams must raise, and what it tells."""
        block = libcheck.first_missing(diagrams)
        if block:
            return UnknownBlock, block
        if libcheck.is_recursive(diagrams):
            return Recursion, None
        bad = libcheck.first_bad(diagrams)
        if bad:
            return BadDiagram, bad
        name = libcheck.first_cyclic(diagrams)
        return (Cycle, name) if name else (None, None)

    def check_error(self, error, expected, diagrams):
        kind, about = expected
        self.assertIs(type(error), kind)
        if kind is UnknownBlock:
            self.assertEqual(error.name, about)
        elif kind is Recursion:
            self.assertTrue(libcheck.is_chain(diagrams, error.chain), error.chain)
        elif kind is BadDiagram:
            self.assertEqual((error.name, error.reason), about[:2])
            self.assertIn(error.port, about[2])
        else:
            self.assertEqual(error.name, about)
            faces = oracle.faces_of(diagrams[about], {
                block: libcheck.interface_of(diagrams, block) for block in libcheck.inner_blocks(diagrams[about])})
            self.assertTrue(oracle.is_cycle(diagrams[about], faces, error.cycle))

    def check_library(self, library, diagrams):
        self.assertEqual(library.names, tuple(sorted(diagrams)))
        self.assertEqual(list(library.build_order()), libcheck.build_order(diagrams))
        new = Library.parse(str(library))
        for name in diagrams:
            self.assertTrue(library.diagram(name) == diagrams[name])
            found, again = library.compiled(name), new.compiled(name)
            self.assertEqual(found.interface, libcheck.interface_of(diagrams, name))
            faces = oracle.faces_of(diagrams[name], {
                block: libcheck.interface_of(diagrams, block) for block in libcheck.inner_blocks(diagrams[name])})
            self.assertEqual((found.steps, found.end), oracle.code_of(diagrams[name], faces, found.profile))
            self.assertEqual((found.interface, found.steps, found.end), (again.interface, again.steps, again.end))

    def test_edits(self):
        seen = {}
        for seed in range(12):
            chance = random.Random(seed)
            library, diagrams = Library(), {}
            for _ in range(45):
                puts = [self.random_put(chance, diagrams) for _ in range(chance.choice((1, 1, 2)))]
                if diagrams and chance.randrange(3) == 0:
                    puts.append(self.same_ports(chance, diagrams))
                puts = [diagram for diagram in puts if diagram]
                drops = [name for name in sorted(diagrams) if not chance.randrange(9)]
                after = {name: diagrams[name] for name in diagrams if name not in drops}
                after.update({diagram.name: diagram for diagram in puts})
                before, kind = told(library), self.expected(after)
                try:
                    rebuilt = library.change(puts, drops)
                except BlockError as error:
                    self.check_error(error, kind, after)
                    self.assertEqual(told(library), before)
                else:
                    self.assertEqual(kind[0], None)
                    self.assertEqual((rebuilt, library.rebuilt), (libcheck.rebuilt_by(diagrams, after), rebuilt))
                    fewer = len(rebuilt) < len(after)
                    seen["some"] = seen.get("some", 0) + (fewer and len(rebuilt) > 1)
                    diagrams = after
                    self.check_library(library, diagrams)
                seen[kind[0]] = seen.get(kind[0], 0) + 1
        for kind in (UnknownBlock, Recursion, BadDiagram, Cycle, None, "some"):
            self.assertGreater(seen[kind], 15, seen)


if __name__ == "__main__":
    unittest.main()
