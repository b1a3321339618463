"""The names of the interface: each stands in its file, with the arguments that the document shows."""

import importlib
import inspect
import unittest

FUNCTIONS = {
    "compiling": {"is_interface": "(value)", "compile_diagram": "(diagram, interfaces)"},
    "ports": {
        "count_parts": "(library, name)", "port_order": "(library, name)", "is_port_order": "(library, name, value)",
        "cone": "(library, name, output)", "is_cone": "(library, name, output, value)",
    },
    "flat": {"flatten": "(library, name)"},
    "surroundings": {
        "surrounding_for": "(library, name, first, second, *, called)", "merged": "(interface, first, second)",
        "can_replace": "(library, old, new)", "breaking": "(library, old, new, *, called)",
        "replaced": "(diagram, old, new)",
    },
    "readings": {
        "are_alike": "(net, source, other, second)", "closed_pairs": "(net, source, other, second)",
        "is_closed": "(net, other, value)", "parting": "(net, source, other, second)",
        "walk_from": "(net, source, instant, route)",
    },
    "least": {"part_classes": "(net)", "needed_parts": "(net)", "least_net": "(net)"},
    "lines": {"line_of": "(net, target)", "are_good": "(net, value)", "moved_net": "(net, moves)"},
    "periods": {
        "period": "(net, *, costs)", "slowest": "(net, *, costs)", "least_moves": "(net, *, costs, bound)",
        "bar_for": "(net, *, costs, bound)", "is_bar": "(net, value, *, costs, bound)",
        "least_period": "(net, *, costs)",
    },
    "counts": {
        "count_delays": "(net)", "fewest_delays": "(net, *, costs, bound)", "shares_for": "(net, *, costs, bound)",
        "shown_by": "(net, value, *, costs, bound)",
    },
    "linear": {
        "first_history": "(net, other)", "state_at": "(net, row, instant)", "told_apart": "(net, state, second)",
    },
    "small": {
        "rows_of": "(net, ranges)", "reached_states": "(net, ranges)",
        "history_to": "(net, ranges, output, values)", "history_apart": "(net, other, ranges)",
        "least_machine": "(net, ranges)",
    },
}
METHODS = {
    ("blocks", "Primitive"): {"parse": "(text)", "compute": "(self, values)"},
    ("blocks", "Diagram"): {"parse": "(text)"},
    ("library", "Library"): {
        "__init__": "(self)", "parse": "(text)", "diagram": "(self, name)", "compiled": "(self, name)",
        "build_order": "(self)", "draft": "(self)", "change": "(self, puts, drops)",
    },
    ("library", "Draft"): {
        "put": "(self, diagram)", "drop": "(self, name)", "commit": "(self)", "close": "(self)",
        "__enter__": "(self)",
    },
    ("machine", "Runner"): {
        "__init__": "(self, library, name)", "begin": "(self)", "step": "(self, *values)",
        "step_row": "(self, values)", "trace": "(self, rows)", "restore": "(self, state)", "move": "(self)",
    },
    ("machine", "Instant"): {
        "give": "(self, name, value)", "give_all": "(self, **values)", "read": "(self, name)", "finish": "(self)",
        "drop": "(self)", "table": "(self)", "__enter__": "(self)",
    },
    ("nets", "Net"): {
        "__init__": "(self, inputs, outputs, parts, wires)", "__call__": "(self, history)", "of": "(library, name)",
        "wide": "(inputs, outputs, parts, wires)",
    },
    ("netruns", "NetRun"): {
        "__init__": "(self, net)", "now": "(self)", "go": "(self, row)", "lead": "(self, path)", "leads": "(self)",
        "shrink": "(self)", "mark": "(self)", "back": "(self, number)",
    },
}
PROPERTIES = {
    ("blocks", "Primitive"): ["interface"], ("compiling", "Compiled"): ["interface"],
    ("library", "Library"): ["names", "rebuilt"], ("machine", "Runner"): ["state", "instant"],
    ("machine", "Instant"): ["ready"],
}
GENERATORS = {("library", "Library"): ["build_order"], ("machine", "Runner"): ["trace"]}
CLASS_METHODS = {("blocks", "Primitive"): ["parse"], ("blocks", "Diagram"): ["parse"], ("library", "Library"): ["parse"]}
STATIC_METHODS = {("nets", "Net"): ["of", "wide"]}


def module_of(name):
    return importlib.import_module(f"stepblocks.{name}")


class SignaturesTest(unittest.TestCase):
    def test_functions(self):
        for file, functions in FUNCTIONS.items():
            for name, shown in functions.items():
                found = getattr(module_of(file), name)
                self.assertTrue(inspect.isfunction(found), name)
                self.assertEqual((str(inspect.signature(found)), found.__module__), (shown, f"stepblocks.{file}"), name)

    def test_methods(self):
        for (file, kind), methods in METHODS.items():
            found = getattr(module_of(file), kind)
            self.assertEqual((found.__name__, found.__module__), (kind, f"stepblocks.{file}"))
            for name, shown in methods.items():
                self.assertIn(name, vars(found), kind)
                self.assertEqual(str(inspect.signature(getattr(found, name))), shown, (kind, name))

    def test_kinds_of_methods(self):
        for kinds, wanted in ((PROPERTIES, property), (CLASS_METHODS, classmethod), (STATIC_METHODS, staticmethod)):
            for (file, kind), names in kinds.items():
                for name in names:
                    self.assertIsInstance(vars(getattr(module_of(file), kind))[name], wanted, (kind, name))
        for (file, kind), names in GENERATORS.items():
            for name in names:
                self.assertTrue(inspect.isgeneratorfunction(vars(getattr(module_of(file), kind))[name]), (kind, name))


if __name__ == "__main__":
    unittest.main()
