"""[5] The classes of refusals."""

import unittest

from cutexchange import errors
from tests.helper import NAMES


class Classes(unittest.TestCase):
    def test_stretch_error_stands_under_value_error(self):
        self.assertEqual(errors.StretchError.__bases__, (ValueError,))

    def test_each_class_stands_straight_under_stretch_error(self):
        for name in NAMES:
            with self.subTest(name):
                self.assertEqual(getattr(errors, name).__bases__, (errors.StretchError,))

    def test_none_stands_under_another_one(self):
        classes = [getattr(errors, name) for name in NAMES]
        for one in classes:
            self.assertEqual([other for other in classes if issubclass(one, other)], [one])

    def test_each_is_made_with_a_text(self):
        for name in NAMES + ["StretchError"]:
            with self.subTest(name):
                error = getattr(errors, name)("why so")
                self.assertEqual(str(error), "why so")
                self.assertEqual(type(error).__name__, name)


if __name__ == "__main__":
    unittest.main()
