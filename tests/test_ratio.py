"""Fractions, held against Python's own."""

import unittest
from fractions import Fraction

from whorules.ratio import at_least, lowest, minus, plus, times

ALL = [Fraction(upper, lower) for lower in (1, 2, 3, 6, 10, 97, 100) for upper in (0, 1, 2, 3, 5, 60, 97, 100)]


def pair(fraction):
    return (fraction.numerator, fraction.denominator)


class Fractions(unittest.TestCase):
    def test_lowest(self):
        for lower in range(1, 101):
            for upper in range(-lower, lower + 1):
                self.assertEqual(lowest(upper, lower), pair(Fraction(upper, lower)))

    def test_two_of_them(self):
        for first in ALL:
            for second in ALL:
                with self.subTest(first=first, second=second):
                    self.assertEqual(plus(pair(first), pair(second)), pair(first + second))
                    self.assertEqual(minus(pair(first), pair(second)), pair(first - second))
                    self.assertEqual(times(pair(first), pair(second)), pair(first * second))
                    self.assertEqual(at_least(pair(first), pair(second)), first >= second)
