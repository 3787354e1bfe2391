import unittest
from types import ModuleType

import reesblocks
from reesblocks.errors import Fault, Malformed, NoText, Refused


class Errors(unittest.TestCase):
    def test_bases(self):
        self.assertEqual(Fault.__bases__, (ValueError,))
        for kind in (Malformed, Refused, NoText):
            self.assertTrue(issubclass(kind, Fault))
            for other in (Malformed, Refused, NoText):
                self.assertEqual(issubclass(kind, other), kind is other)

    def test_attributes(self):
        self.assertEqual(Refused("large").reason, "large")
        self.assertEqual(NoText(0).at, 0)
        self.assertEqual(NoText(17).at, 17)

    def test_raised_and_caught_by_the_base(self):
        for fault in (Fault(), Malformed(), Malformed("x"), Refused("meet"), NoText(3)):
            with self.assertRaises(Fault):
                raise fault
            str(fault)

    def test_the_package_itself_defines_nothing(self):
        for name, value in vars(reesblocks).items():
            self.assertTrue(name.startswith("__") or isinstance(value, ModuleType), name)
