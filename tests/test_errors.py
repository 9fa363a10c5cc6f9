"""The error classes of the interface."""

import unittest

from millshare import errors

KINDS = ("NoMill", "NoCount", "NoPart", "NoPrice", "NoName", "NoText")


class ErrorsTest(unittest.TestCase):
    def test_any_refusal_is_a_value_error(self):
        self.assertEqual(errors.MillError.__bases__, (ValueError,))

    def test_each_kind_stands_straight_under_mill_error(self):
        for kind in KINDS:
            with self.subTest(kind=kind):
                self.assertEqual(getattr(errors, kind).__bases__, (errors.MillError,))

    def test_the_kinds_are_classes_of_their_own(self):
        kinds = {getattr(errors, kind) for kind in KINDS}
        self.assertEqual(len(kinds), len(KINDS))

    def test_each_class_is_defined_there_under_its_name(self):
        for name in (*KINDS, "MillError"):
            with self.subTest(name=name):
                self.assertEqual(getattr(errors, name).__name__, name)
                self.assertEqual(getattr(errors, name).__module__, "millshare.errors")


if __name__ == "__main__":
    unittest.main()
