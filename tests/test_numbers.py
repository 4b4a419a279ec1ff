"""Promise: fractions are exact and in lowest terms."""

from fractions import Fraction
from math import gcd
import random
import unittest

from liftedladders.errors import BadNumber
from liftedladders.numbers import added, fraction, is_above, is_fraction, is_integer, less, multiplied
from tests.support import Case, ODD

LONG = 123456789012345678901234567890
OTHER_LONG = 987654321098765432109876543211


def some_numbers(seed, number):
    chance = random.Random(seed)
    for _ in range(number):
        most = chance.choice([3, 20, 10 ** 6, 10 ** 30])
        yield chance.randint(-most, most), chance.choice([-1, 1]) * chance.randint(1, most)


def pair(value):
    return (value.numerator, value.denominator)


class NumbersTest(Case):
    def test_is_integer(self):
        for value in (0, 3, 7):
            self.assert_truth(is_integer(value, 0, 7), True)
        for value in (-1, 8, LONG, -LONG):
            self.assert_truth(is_integer(value, 0, 7), False)
        self.assert_truth(is_integer(LONG, LONG, LONG), True)
        self.assert_truth(is_integer(-LONG, -LONG, 0), True)
        self.assert_truth(is_integer(3, 4, 2), False)
        for value in ODD:
            self.assert_truth(is_integer(value, -9, 9), False)
        self.assert_truth(is_integer(value=2, lowest=2, highest=2), True)

    def test_is_fraction(self):
        for value in ((0, 1), (1, 2), (-3, 4), (5, 1), (LONG, OTHER_LONG), (-LONG, 7)):
            self.assert_truth(is_fraction(value), gcd(*value) == 1)
        for value in ((0, 2), (2, 4), (1, 0), (0, 0), (1, -2), (0, -1), (LONG, LONG), [1, 2], (1,), (1, 2, 3),
                      (True, 2), (1, True), (False, 1), ("1", 2), (1, None), ((1, 2), 1), 1):
            self.assert_truth(is_fraction(value), False)
        for value in ODD:
            self.assert_truth(is_fraction(value), False)

    def test_fraction(self):
        self.assert_same(fraction(6, 4), (3, 2))
        self.assert_same(fraction(0, -7), (0, 1))
        self.assert_same(fraction(3, -6), (-1, 2))
        self.assert_same(fraction(-3, -6), (1, 2))
        self.assert_same(fraction(over=LONG * 6, under=-OTHER_LONG * 6), (-LONG // gcd(LONG, OTHER_LONG),
                                                                          OTHER_LONG // gcd(LONG, OTHER_LONG)))
        for over, under in some_numbers(1, 300):
            self.assert_same(fraction(over, under), pair(Fraction(over, under)))

    def test_fraction_refused(self):
        for over in (0, 1, -LONG):
            self.refuses(BadNumber, "number", 0, fraction, over, 0)

    def test_reckoned(self):
        numbers = [Fraction(over, under) for over, under in some_numbers(2, 200)]
        for one, other in zip(numbers, numbers[1:]):
            self.assert_same(added(pair(one), pair(other)), pair(one + other))
            self.assert_same(less(pair(one), pair(other)), pair(one - other))
            self.assert_same(multiplied(pair(one), pair(other)), pair(one * other))
            self.assert_truth(is_above(pair(one), pair(other)), one > other)
            self.assert_truth(is_above(pair(one), pair(one)), False)

    def test_reckoned_small(self):
        self.assert_same(added((1, 2), (1, 2)), (1, 1))
        self.assert_same(less((1, 2), (1, 2)), (0, 1))
        self.assert_same(less(one=(1, 3), other=(1, 2)), (-1, 6))
        self.assert_same(multiplied((2, 3), (-3, 2)), (-1, 1))
        self.assert_same(multiplied((0, 1), (-3, 2)), (0, 1))
        self.assert_truth(is_above((-1, 3), (-1, 2)), True)
        self.assert_truth(is_above(one=(-1, 2), other=(-1, 3)), False)

    def test_told_again(self):
        one, other = (1, 2), (2, 3)
        self.assertEqual(added(one, other), added(one, other))
        self.assertEqual((one, other), ((1, 2), (2, 3)))


if __name__ == "__main__":
    unittest.main()
