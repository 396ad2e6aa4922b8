"""The interface, section insidecount/errors.py."""

import unittest

from insidecount import errors

NAMES = ("BadHouse", "BadRow", "BadTime", "BadAsk", "NotSound", "TooMany")


class ErrorsTest(unittest.TestCase):
    def test_house_error_is_a_value_error(self):
        self.assertEqual(errors.HouseError.__bases__, (ValueError,))

    def test_each_stands_straight_under_house_error(self):
        for name in NAMES:
            with self.subTest(name=name):
                self.assertEqual(getattr(errors, name).__bases__, (errors.HouseError,))
                self.assertEqual(getattr(errors, name).__name__, name)

    def test_none_is_one_of_the_others(self):
        for name in NAMES:
            for other in NAMES:
                if name != other:
                    with self.subTest(name=name, other=other):
                        self.assertFalse(issubclass(getattr(errors, name), getattr(errors, other)))


if __name__ == "__main__":
    unittest.main()
