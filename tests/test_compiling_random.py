"""Points 2, 8 to 11, 17 and 18, for many diagrams that are put together by chance (always the same ones)."""

import copy
import random
import unittest

import oracle
from stepblocks.blocks import Diagram, Primitive
from stepblocks.compiling import compile_diagram, is_interface
from stepblocks.errors import Cycle

PRIMITIVES = ("const 3", "add", "sub", "mul", "less", "equal", "pick", "divide", "delay 0", "delay 4294967295")
KNOWN = {text: Primitive.parse(text).interface for text in PRIMITIVES}


def random_interface(chance):
    """Return a made-up interface as point 10 allows it."""
    inputs = tuple(chance.sample(["a", "b", "c", "d"], chance.randrange(5)))
    outputs = tuple(chance.sample(["p", "q", "r", "s"], chance.randrange(5)))
    groups = {}
    for output in outputs:
        groups.setdefault(chance.randrange(3), []).append(output)
    profile = [(tuple(names), tuple(name for name in inputs if chance.randrange(2))) for names in groups.values()]
    return (inputs, outputs, tuple(profile))


class CompilingCase(unittest.TestCase):
    def compiled(self, diagram, interfaces):
        """Return what a diagram is compiled to, or None for a true Cycle; check it against points 10 and 11."""
        before, text = copy.deepcopy(interfaces), str(diagram)
        faces = oracle.faces_of(diagram, interfaces)
        profile = oracle.step_profile(diagram, faces)
        try:
            found = compile_diagram(diagram, interfaces)
        except Cycle as cycle:
            self.assertIs(profile, None, text)
            self.assertEqual(cycle.name, diagram.name)
            self.assertTrue(oracle.is_cycle(diagram, faces, cycle.cycle), text)
            found = None
        else:
            self.assertEqual(found.profile, profile, text)
            self.assertEqual(found.interface, (diagram.inputs, diagram.outputs, profile))
            self.assertTrue(is_interface(found.interface))
            self.assertEqual((found.steps, found.end), oracle.code_of(diagram, faces, profile), text)
        self.assertEqual((interfaces, str(diagram)), (before, text))
        return found


class LibrariesTest(CompilingCase):
    def test_interfaces_of_parts_tell_the_same_as_all_ports(self):
        chance = random.Random(3)
        accepted, refused = 0, 0
        for _ in range(250):
            diagrams, interfaces = {}, {}
            for name in ("one", "two", "three", "four"):
                blocks = {**KNOWN, **interfaces}
                if interfaces and chance.randrange(2):
                    blocks = {**interfaces, "delay 0": KNOWN["delay 0"], "add": KNOWN["add"]}
                diagram = oracle.random_diagram(chance, name, blocks, 5)
                if diagram is None:
                    continue
                library = {**diagrams, name: diagram}
                profile = oracle.port_profile(library, name)
                found = self.compiled(diagram, interfaces)
                self.assertEqual(None if found is None else found.profile, profile, str(diagram))
                if found is None:
                    refused += 1
                else:
                    accepted += 1
                    diagrams[name], interfaces[name] = diagram, found.interface
        self.assertGreater(accepted, 400)
        self.assertGreater(refused, 100)


class MadeUpTest(CompilingCase):
    def test_made_up_interfaces(self):
        chance = random.Random(4)
        several, accepted = 0, 0
        for _ in range(1500):
            interfaces = {name: random_interface(chance) for name in ("one", "two", "three")}
            self.assertTrue(all(is_interface(value) for value in interfaces.values()))
            blocks = {**interfaces, "delay 0": KNOWN["delay 0"], "add": KNOWN["add"]}
            diagram = oracle.random_diagram(chance, "top", blocks, 6)
            found = self.compiled(diagram, interfaces) if diagram else None
            accepted += found is not None
            several += found is not None and len(found.profile) > 1
        self.assertGreater(several, 150)
        self.assertLess(accepted, 1400)


def needs_of(interface):
    return {name: needs for names, needs in interface[2] for name in names}


def surrounding(interface, wires):
    """Return the diagram around one part `inner`; wires is a dict of inputs to outputs of the part."""
    inputs = [name for name in interface[0] if name not in wires]
    rows = {f"inner.{name}": f"inner.{wires[name]}" if name in wires else name for name in interface[0]}
    rows.update({name: f"inner.{name}" for name in interface[1]})
    return Diagram.parse(oracle.text_of("around", inputs, interface[1], [("inner", "tried")], rows))


class SurroundingsTest(CompilingCase):
    def accepts(self, diagram, interface):
        return self.compiled(diagram, {"tried": interface}) is not None

    def test_joined_step_functions_refuse_more(self):
        chance, tried = random.Random(17), 0
        while tried < 300:
            interface = random_interface(chance)
            inputs, outputs, profile = interface
            if len(profile) < 2 or profile[0][1] == profile[1][1]:
                continue
            first, second = profile[0], profile[1]
            names = tuple(name for name in outputs if name in first[0] + second[0])
            needs = tuple(name for name in inputs if name in first[1] + second[1])
            joined = (inputs, outputs, ((names, needs), *profile[2:]))
            only = next(name for name in inputs if (name in first[1]) != (name in second[1]))
            other = second[0][0] if only in first[1] else first[0][0]
            diagram = surrounding(interface, {only: other})
            self.assertTrue(self.accepts(diagram, interface))
            self.assertFalse(self.accepts(diagram, joined))
            tried += 1

    def test_replacing_blocks(self):
        chance, same, more = random.Random(18), 0, 0
        while same < 150 or more < 150:
            old = random_interface(chance)
            inputs, outputs, _ = old
            new_needs = {name: tuple(sorted(chance.sample(inputs, chance.randrange(len(inputs) + 1)), key=inputs.index))
                         for name in outputs}
            new = (inputs, outputs, oracle.profile_of(inputs, outputs, {key: set(new_needs[key]) for key in outputs}))
            self.assertTrue(is_interface(new))
            old_needs = needs_of(old)
            grown = [(output, name) for output in outputs for name in inputs
                     if name in new_needs[output] and name not in old_needs[output]]
            if grown:
                more += 1
                output, name = grown[0]
                diagram = surrounding(old, {name: output})
                self.assertTrue(self.accepts(diagram, old))
                self.assertFalse(self.accepts(diagram, new))
            elif outputs:
                same += 1
                diagram = oracle.random_diagram(chance, "top", {"tried": old, "delay 0": KNOWN["delay 0"]}, 5)
                if diagram and self.accepts(diagram, old):
                    self.assertTrue(self.accepts(diagram, new))


if __name__ == "__main__":
    unittest.main()
