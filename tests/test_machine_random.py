"""Points 2, 9, 11 and 14 to 16, for many libraries that are put together by chance (always the same ones)."""

import random
import unittest

import portcheck
import running
from stepblocks.errors import BlockError, NotGiven
from stepblocks.machine import Runner

BLOCKS = ("const 3", "const 4294967295", "add", "sub", "mul", "less", "equal", "pick", "divide", "delay 0", "delay 1",
          "delay 4294967290")
VALUES = (0, 1, 2, 3, 2 ** 31, 2 ** 32 - 1)


def random_row(chance, inputs):
    return [chance.choice(VALUES) for _ in inputs]


class RandomRunsTest(unittest.TestCase):
    def test_ports_code_and_runner_agree(self):
        chance, deep, steps = random.Random(21), 0, 0
        for _ in range(120):
            library, name = portcheck.random_library(chance, 4, 5, BLOCKS)
            diagrams = portcheck.diagrams_in(library)
            diagram = diagrams[name]
            runner, code = Runner(library, name), running.CodeRun(library, name)
            state = running.first_state(diagrams, name)
            self.assertEqual((list(runner.state.items()), code.state()), (list(state.items()), state))
            for _ in range(6):
                row = random_row(chance, diagram.inputs)
                table = running.table_of(diagrams, name, state, row)
                outputs = tuple(table[((), output)] for output in diagram.outputs)
                self.check_instant(chance, library, name, runner, row, table)
                self.assertEqual(runner.step(*row), outputs)
                self.assertEqual(code.run(row), outputs)
                state = running.state_after(state, table)
                self.assertEqual((list(runner.state.items()), code.state()), (list(state.items()), state))
                steps += len(library.compiled(name).steps) > 1
            deep = max([deep] + [len(path) for path in state])
        self.assertEqual(deep, 4)
        self.assertGreater(steps, 250)

    def check_instant(self, chance, library, name, runner, row, table):
        """Give the inputs in some order, read what can be read, and drop the instant."""
        diagram, needs = library.diagram(name), {}
        for outputs, named in library.compiled(name).profile:
            needs.update({output: named for output in outputs})
        state, given = runner.state, []
        with runner.begin() as instant:
            order = list(zip(diagram.inputs, row))
            chance.shuffle(order)
            for one in [None, *order]:
                if one:
                    instant.give(*one)
                    given.append(one[0])
                ready = tuple(output for output in diagram.outputs if set(needs[output]) <= set(given))
                self.assertEqual(instant.ready, ready)
                for output in chance.sample(diagram.outputs, len(diagram.outputs)):
                    if output in ready:
                        self.assertEqual(instant.read(output), table[((), output)])
                    else:
                        with self.assertRaises(NotGiven) as caught:
                            instant.read(output)
                        self.assertEqual(caught.exception.missing,
                                         tuple(need for need in needs[output] if need not in given))
            self.assertEqual(instant.table(), table)
        self.assertEqual(runner.state, state)

    def test_moves(self):
        chance, kept, moved = random.Random(22), 0, 0
        for _ in range(60):
            library, name = portcheck.random_library(chance, 3, 5, BLOCKS)
            runner = Runner(library, name)
            for _ in range(6):
                other, _ = portcheck.random_library(chance, 3, 5, BLOCKS)
                puts = [other.diagram(chance.choice(other.names)) for _ in range(2)]
                before, diagrams = runner.state, portcheck.diagrams_in(library)
                try:
                    library.change(puts, [])
                except BlockError:
                    continue
                self.assertEqual(runner.state, before)
                rows = [random_row(chance, diagrams[name].inputs) for _ in range(2)]
                for row in rows:
                    table = running.table_of(diagrams, name, runner.state, row)
                    state = running.state_after(runner.state, table)
                    self.assertEqual(runner.step(*row), tuple(table[((), out)] for out in diagrams[name].outputs))
                    self.assertEqual(runner.state, state)
                before, first = runner.state, running.first_state(portcheck.diagrams_in(library), name)
                runner.move()
                expected = {path: before.get(path, first[path]) for path in first}
                self.assertEqual(list(runner.state.items()), list(expected.items()))
                kept += any(expected[path] != first[path] for path in first)
                moved += 1
        self.assertGreater(kept, 10)
        self.assertGreater(moved, 60)


if __name__ == "__main__":
    unittest.main()
