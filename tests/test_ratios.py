"""Ratios: exact fractions in lowest terms."""

import random
import unittest
from fractions import Fraction

from spiralsays.errors import BadRatio, BadText
from spiralsays.ratios import Ratio, added, greatest_of, is_ratio, least_of
from helpers import ANY, check_raises, check_wrong, fraction, is_integer
from helpers import is_ratio as may_be_ratio


class Ratios(unittest.TestCase):
    def setUp(self):
        chance = random.Random(3)
        self.some = [Ratio(chance.randint(-30, 30), chance.randint(1, 12)) for _ in range(60)]
        self.some += [Ratio(0), Ratio(10 ** 70, 3), Ratio(-7, 10 ** 65)]

    def test_lowest_terms(self):
        for top, bottom, due in (
            (4, -6, (-2, 3)), (0, -5, (0, 1)), (6, 3, (2, 1)), (-9, -6, (3, 2)), (5, 1, (5, 1)), (0, 1, (0, 1)),
        ):
            one = Ratio(top, bottom)
            self.assertEqual((one.top, one.bottom), due)
            self.assertIs(type(one.top), int)
        self.assertEqual((Ratio(7).top, Ratio(7).bottom), (7, 1))
        self.assertEqual(Ratio(top=1, bottom=2), Ratio(1, 2))

    def test_refused(self):
        for value in ANY:
            if not is_integer(value):
                check_raises(self, BadRatio("top"), Ratio, value)
                check_raises(self, BadRatio("top"), Ratio, value, 0)
                check_raises(self, BadRatio("bottom"), Ratio, 1, value)
        check_raises(self, BadRatio("bottom"), Ratio, 1, 0)

    def test_properties(self):
        for one in self.some:
            value = fraction(one)
            self.assertEqual(one.sign, (value > 0) - (value < 0))
            self.assertIs(one.is_whole, value.denominator == 1)
            self.assertEqual(one.below, value.numerator // value.denominator)
        self.assertEqual([Ratio(-7, 2).below, Ratio(7, 2).below, Ratio(-4).below], [-4, 3, -4])

    def test_operators(self):
        for one in self.some:
            for other in self.some[::7] + [0, 1, -5, 10 ** 61]:
                left, right = fraction(one), fraction(other)
                for found, due in ((one + other, left + right), (one - other, left - right), (one * other, left * right)):
                    self.assertIsInstance(found, Ratio)
                    self.assertEqual((found.top, found.bottom), (due.numerator, due.denominator))
                if right != 0:
                    found = one.over(other)
                    self.assertEqual(fraction(found), left / right)
                    self.assertGreater(found.bottom, 0)
                self.assertEqual(one.compared(other), (left > right) - (left < right))
                self.assertIs(one.is_below(other), left < right)
                self.assertIs(one == other, left == right)
                self.assertIs(other == one, left == right)
            self.assertEqual(fraction(-one), -fraction(one))
            self.assertEqual(fraction(abs(one)), abs(fraction(one)))
            self.assertIs(bool(one), fraction(one) != 0)

    def test_operators_refuse(self):
        one = Ratio(1, 2)
        calls = (one.over, one.compared, one.is_below, lambda x: one + x, lambda x: one - x, lambda x: one * x)
        for call in calls:
            check_wrong(self, call, ("other", "plain ratio", Ratio(1, 3)))
        check_raises(self, BadRatio("zero"), one.over, 0)
        check_raises(self, BadRatio("zero"), one.over, Ratio(0))
        for call in (lambda: 1 + one, lambda: one < one, lambda: one / one):
            self.assertRaises(TypeError, call)

    def test_equal_to_nothing_else(self):
        self.assertEqual(Ratio(1), 1)
        self.assertEqual(1, Ratio(1))
        self.assertFalse(Ratio(1) == True)  # noqa: E712
        self.assertFalse(Ratio(0) == False)  # noqa: E712
        self.assertTrue(Ratio(1) != True)  # noqa: E712
        for value in ANY:
            if not may_be_ratio(value):
                self.assertFalse(Ratio(1) == value)
        self.assertFalse(Ratio(1, 2) == Fraction(1, 2))

    def test_texts(self):
        for one, text in ((Ratio(3), "3"), (Ratio(-3, 2), "-3/2"), (Ratio(0), "0"), (Ratio(10 ** 59, 7), f"{10 ** 59}/7")):
            self.assertEqual(str(one), text)
            self.assertEqual(repr(one), text)
            self.assertEqual(Ratio.read(text), one)
        for one in self.some[:60]:
            found = Ratio.read(str(one))
            self.assertEqual((found.top, found.bottom), (one.top, one.bottom))

    def test_read_refuses(self):
        wrong = [
            "4/2", "0/5", "-0", "+1", "3/1", "1/-2", "1/0", "", "/", "1/", "/2", "1/2/3", "01", "1/02", "x", "1.5", "--1",
            "-", "1_0", "\u0661", " ", "1\n", "0/1", "-0/3", "-1/-2", "+1/2", "1" * 61, "-" + "1" * 61, "1/" + "3" * 61,
        ]
        for text in wrong:
            check_raises(self, BadText(0, 0), Ratio.read, text)
        check_raises(self, BadText(0, 1), Ratio.read, "1/2 1")
        check_raises(self, BadText(0, 1), Ratio.read, "1/2 ")
        check_raises(self, BadText(0, 0), Ratio.read, " 1/2")
        for value in ANY:
            if not isinstance(value, str):
                check_raises(self, BadText(0, 0), Ratio.read, value)
        self.assertEqual(Ratio.read("-" + "9" * 60), Ratio(1 - 10 ** 60))
        self.assertEqual(Ratio.read("1/" + "9" * 60), Ratio(1, 10 ** 60 - 1))

    def test_of(self):
        half = Ratio(1, 2)
        self.assertEqual(Ratio.of(half), half)
        self.assertIsInstance(Ratio.of(4), Ratio)
        check_wrong(self, Ratio.of, ("value", "plain ratio", 1))

    def test_is_ratio(self):
        for value in ANY:
            self.assertIs(is_ratio(value), may_be_ratio(value))

    def test_lists(self):
        self.assertEqual(added([]), 0)
        self.assertIsInstance(added(()), Ratio)
        self.assertEqual([added([1, Ratio(1, 2)]), added((Ratio(1, 3), Ratio(2, 3)))], [Ratio(3, 2), 1])
        self.assertEqual([least_of([3, Ratio(1, 2), 1]), greatest_of((3, Ratio(7, 2), 1))], [Ratio(1, 2), Ratio(7, 2)])
        self.assertEqual([least_of([5]), greatest_of([-5])], [5, -5])
        self.assertIsInstance(least_of([5, 6]), Ratio)
        self.assertIsInstance(greatest_of([5, 6]), Ratio)
        for call in (added, least_of, greatest_of):
            for value in ANY:
                if not (isinstance(value, (list, tuple)) and all(may_be_ratio(one) for one in value)):
                    check_raises(self, BadRatio("ratios"), call, value)
            for value in ([1, None], [True], (Ratio(1), "1"), [[1]]):
                check_raises(self, BadRatio("ratios"), call, value)
        for value in ([], ()):
            check_raises(self, BadRatio("ratios"), least_of, value)
            check_raises(self, BadRatio("ratios"), greatest_of, value)


if __name__ == "__main__":
    unittest.main()
