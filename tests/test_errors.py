"""The refusals: their bases and their fields."""

import unittest

from sparecount import errors

NAMES = ("NoBook", "NoAsking", "NoMost", "TooMany", "NoText", "NoRow", "NoStand")


class Errors(unittest.TestCase):
    def test_count_error_is_right_under_value_error(self):
        self.assertEqual(errors.CountError.__bases__, (ValueError,))

    def test_all_others_are_right_under_count_error(self):
        for name in NAMES:
            with self.subTest(name=name):
                self.assertEqual(getattr(errors, name).__bases__, (errors.CountError,))

    def test_each_is_defined_in_its_file(self):
        for name in NAMES + ("CountError",):
            with self.subTest(name=name):
                self.assertEqual(getattr(errors, name).__module__, "sparecount.errors")

    def test_no_book_has_its_fault(self):
        for fault in ("shape", "names", "great"):
            with self.subTest(fault=fault):
                self.assertEqual(errors.NoBook(fault).fault, fault)


if __name__ == "__main__":
    unittest.main()
