"""Fractions: above (below 0, if it's that) and below (1 or more), with nothing in common."""

import unittest
from fractions import Fraction
from itertools import product

from unlikedays.ratios import ONE, ZERO, is_less, minus, over, plus, ratio, times

SOME = [(above, below) for above, below in product(range(-7, 8), range(1, 8))]


def pair(value):
    return (value.numerator, value.denominator)


class Ratios(unittest.TestCase):
    def test_nothing_in_common(self):
        self.assertEqual(ratio(6, 4), (3, 2))
        self.assertEqual(ratio(12, 4), (3, 1))
        self.assertEqual(ratio(4, 12), (1, 3))
        self.assertEqual(ratio(7, 5), (7, 5))

    def test_nothing_is_0_1(self):
        self.assertEqual(ratio(0, 1), (0, 1))
        self.assertEqual(ratio(0, 17), (0, 1))
        self.assertEqual(ratio(0, -17), (0, 1))
        self.assertEqual(ZERO, (0, 1))
        self.assertEqual(ONE, (1, 1))

    def test_below_0_stands_above(self):
        self.assertEqual(ratio(-6, 4), (-3, 2))
        self.assertEqual(ratio(6, -4), (-3, 2))
        self.assertEqual(ratio(-6, -4), (3, 2))
        self.assertEqual(ratio(-3, 1), (-3, 1))

    def test_against_another_way(self):
        reduced = [(ratio(*one), Fraction(*one)) for one in SOME]
        for mine, other in reduced:
            self.assertEqual(mine, pair(other))
        for (first, a), (second, b) in product(reduced, repeat=2):
            self.assertEqual(plus(first, second), pair(a + b))
            self.assertEqual(minus(first, second), pair(a - b))
            self.assertEqual(times(first, second), pair(a * b))
            self.assertEqual(is_less(first, second), a < b)
            if b != 0:
                self.assertEqual(over(first, second), pair(a / b))
