"""The interface's cachebet/errors.py: each refusal, and what it bears."""

import unittest

from cachebet import errors
from tests.models import ERROR_CLASSES


class TestErrors(unittest.TestCase):
    def test_any_refusal_is_a_value_error(self):
        self.assertEqual(errors.CacheError.__bases__, (ValueError,))

    def test_each_class_stands_right_under_it(self):
        for name in ERROR_CLASSES:
            self.assertEqual(getattr(errors, name).__bases__, (errors.CacheError,), name)

    def test_there_are_no_other_classes(self):
        self.assertEqual(sorted(kind.__name__ for kind in errors.CacheError.__subclasses__()), sorted(ERROR_CLASSES))

    def test_all_are_defined_in_the_file(self):
        for name in ("CacheError",) + ERROR_CLASSES:
            self.assertEqual(getattr(errors, name).__module__, "cachebet.errors")
            self.assertEqual(getattr(errors, name).__name__, name)

    def test_number_and_row_are_set_when_the_error_is_made(self):
        for number in (0, 7, 60):
            self.assertEqual(errors.BadStream(number).number, number)
            self.assertEqual(errors.BadText(number).row, number)

    def test_the_others_bear_a_wording(self):
        for name in ERROR_CLASSES:
            if name not in ("BadStream", "BadText"):
                self.assertEqual(str(getattr(errors, name)("so it is")), "so it is")


if __name__ == "__main__":
    unittest.main()
