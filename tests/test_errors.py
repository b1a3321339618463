"""The error classes of stepblocks/errors.py, as the interface lists them."""

import unittest

from stepblocks import errors
from stepblocks.errors import BlockError

ATTRIBUTES = {
    "InvalidText": ("row",), "UnknownBlock": ("name",), "Recursion": ("chain",),
    "BadDiagram": ("name", "port", "reason"), "BadInterface": ("name",), "Cycle": ("name", "cycle"),
    "DraftClosed": (), "Stale": (), "LibraryFull": (), "TooLarge": ("count",), "WrongCount": ("count",),
    "UnknownPort": ("name",), "BadValue": ("name",), "Given": ("name",), "NotGiven": ("missing",),
    "InstantOpen": (), "InstantClosed": (), "BadState": ("path",), "OtherPorts": (), "BadNet": (), "DelayRing": (),
    "BadMoves": (), "NotLinear": ("path",), "BadRanges": (), "TooManyStates": (), "UnknownPart": ("path",),
    "NotGood": (), "UnknownMark": ("number",),
}
ODD_VALUES = (None, True, -1, 10 ** 5000, "", "a\nb", (), ("a", ("b",)), [1, [2]], {"a": 1})


class ErrorsTest(unittest.TestCase):
    def test_base_class(self):
        self.assertEqual(BlockError.__bases__, (ValueError,))

    def test_each_is_a_direct_subclass_defined_here(self):
        for name in ATTRIBUTES:
            kind = getattr(errors, name)
            self.assertEqual(kind.__bases__, (BlockError,), name)
            self.assertEqual((kind.__name__, kind.__module__), (name, "stepblocks.errors"))

    def test_attributes_by_position_and_by_name(self):
        for name, attributes in ATTRIBUTES.items():
            kind = getattr(errors, name)
            for start in range(len(ODD_VALUES)):
                values = [ODD_VALUES[(start + k) % len(ODD_VALUES)] for k in range(len(attributes))]
                named = dict(zip(attributes, values))
                for error in (kind(*values), kind(**named)):
                    self.assertIsInstance(error, BlockError)
                    self.assertIsInstance(error, ValueError)
                    self.assertEqual([getattr(error, a) for a in attributes], values)

    def test_they_can_be_raised_and_shown(self):
        for name, attributes in ATTRIBUTES.items():
            kind = getattr(errors, name)
            with self.assertRaises(kind) as caught:
                raise kind(*attributes)
            self.assertIsInstance(str(caught.exception), str)


if __name__ == "__main__":
    unittest.main()
