"""What may be asked of any value: integers, bounds, names."""

import unittest

from spiralsays.checks import is_integer, is_name, is_within
from helpers import ANY


class Checks(unittest.TestCase):
    def test_integers(self):
        for value in (0, -1, 7, 10 ** 100):
            self.assertIs(is_integer(value), True)
        for value in ANY:
            self.assertIs(is_integer(value), type(value) is int, value)

    def test_within(self):
        for least, most, value, due in (
            (0, 5, 0, True), (0, 5, 5, True), (0, 5, 6, False), (0, 5, -1, False), (None, 5, -10 ** 50, True),
            (None, 5, 6, False), (3, None, 10 ** 50, True), (3, None, 2, False), (None, None, -4, True), (2, 1, 2, False),
        ):
            self.assertIs(is_within(value, least, most), due)
        for value in ANY:
            self.assertIs(is_within(value, None, None), type(value) is int)
        self.assertIs(is_within(True, 0, 5), False)

    def test_names(self):
        for value in ("a", "z9", "abcdefghijkl", "a00000000000", "b1c2"):
            self.assertIs(is_name(value), True, value)
        wrong = ["", "9a", "A", "aB", "a b", "a_b", "abcdefghijklm", "a-", "\u00e9", "a\u00e9", "a\u0661", "a\n", " a"]
        for value in wrong + [one for one in ANY if not isinstance(one, str)]:
            self.assertIs(is_name(value), False, value)


if __name__ == "__main__":
    unittest.main()
