"""Fractions: promise 4, and what promise 2 says of them."""

import unittest
from fractions import Fraction
from math import gcd

from flipwright.errors import NoShare
from flipwright.ratios import fraction, minus, over, plus, times, under

SMALL = range(-12, 13)
# Numbers of some hundred figures, with many divisors in common and with none.
LONG = [
    6 ** 400,
    -(10 ** 300),
    3 ** 500 * 7 ** 100,
    2 ** 1000 + 1,
    -(5 ** 300 * 2 ** 200),
    int("123456789" * 50),
    int("987654321" * 40),
]


def as_tuple(number):
    return (number.numerator, number.denominator)


class FractionCase(unittest.TestCase):
    def assert_fraction(self, told, wanted):
        self.assertIs(type(told), tuple)
        self.assertEqual(len(told), 2)
        for number in told:
            self.assertIs(type(number), int)
        self.assertGreaterEqual(told[1], 1)
        self.assertEqual(gcd(told[0], told[1]), 1)
        self.assertEqual(told, wanted)


class TestFraction(FractionCase):
    def test_written_out(self):
        self.assert_fraction(fraction(6, 4), (3, 2))
        self.assert_fraction(fraction(-6, 4), (-3, 2))
        self.assert_fraction(fraction(6, -4), (-3, 2))
        self.assert_fraction(fraction(-6, -4), (3, 2))
        self.assert_fraction(fraction(7, 7), (1, 1))
        self.assert_fraction(fraction(1, 12), (1, 12))
        self.assert_fraction(fraction(12, 1), (12, 1))
        self.assert_fraction(fraction(12, -1), (-12, 1))

    def test_all_small_ones(self):
        for top in SMALL:
            for bottom in SMALL:
                if bottom != 0:
                    self.assert_fraction(fraction(top, bottom), as_tuple(Fraction(top, bottom)))

    def test_long_ones(self):
        for top in LONG:
            for bottom in LONG:
                self.assert_fraction(fraction(top, bottom), as_tuple(Fraction(top, bottom)))
                self.assert_fraction(fraction(top * bottom, bottom), (top, 1))

    def test_numbers_of_2000_figures(self):
        nines = 10 ** 2000 - 1
        self.assert_fraction(fraction(nines, nines - 1), (nines, nines - 1))
        self.assert_fraction(fraction(nines // 9, -nines), (-1, 9))

    def test_a_top_of_0(self):
        for bottom in [1, 2, 12, -1, -7] + LONG:
            self.assert_fraction(fraction(0, bottom), (0, 1))

    def test_a_bottom_of_0_is_refused(self):
        for top in [0, 1, -1, 12] + LONG:
            with self.assertRaises(NoShare):
                fraction(top, 0)

    def test_argument_names(self):
        self.assert_fraction(fraction(top=2, bottom=6), (1, 3))


class TestReckoning(FractionCase):
    def setUp(self):
        small = {fraction(top, bottom) for top in range(-6, 7) for bottom in range(1, 7)}
        long = {fraction(top, bottom) for top in LONG[:4] for bottom in LONG[3:]}
        self.fractions = sorted(small | long)

    def each_pair(self):
        for one in self.fractions:
            for other in self.fractions:
                yield one, other, Fraction(*one), Fraction(*other)

    def test_written_out(self):
        self.assert_fraction(plus((1, 2), (1, 3)), (5, 6))
        self.assert_fraction(plus((1, 6), (1, 3)), (1, 2))
        self.assert_fraction(plus((-1, 2), (1, 2)), (0, 1))
        self.assert_fraction(plus((-1, 6), (-1, 6)), (-1, 3))
        self.assert_fraction(minus((1, 2), (1, 3)), (1, 6))
        self.assert_fraction(minus((1, 3), (1, 2)), (-1, 6))
        self.assert_fraction(minus((3, 4), (3, 4)), (0, 1))
        self.assert_fraction(times((2, 3), (3, 4)), (1, 2))
        self.assert_fraction(times((-2, 3), (-3, 2)), (1, 1))
        self.assert_fraction(times((-2, 3), (0, 1)), (0, 1))
        self.assert_fraction(over((1, 2), (-3, 4)), (-2, 3))
        self.assert_fraction(over((0, 1), (-3, 4)), (0, 1))
        self.assert_fraction(over((-5, 1), (-5, 1)), (1, 1))

    def test_sums(self):
        for one, other, first, second in self.each_pair():
            self.assert_fraction(plus(one, other), as_tuple(first + second))

    def test_differences(self):
        for one, other, first, second in self.each_pair():
            self.assert_fraction(minus(one, other), as_tuple(first - second))

    def test_products(self):
        for one, other, first, second in self.each_pair():
            self.assert_fraction(times(one, other), as_tuple(first * second))

    def test_quotients(self):
        for one, other, first, second in self.each_pair():
            if second != 0:
                self.assert_fraction(over(one, other), as_tuple(first / second))

    def test_a_quotient_by_nought_is_refused(self):
        for one in self.fractions + [(0, 1)]:
            with self.assertRaises(NoShare):
                over(one, (0, 1))

    def test_under_tells_a_truth(self):
        for one, other, first, second in self.each_pair():
            self.assertIs(under(one, other), first < second)

    def test_under_written_out(self):
        self.assertIs(under((1, 3), (1, 2)), True)
        self.assertIs(under((1, 2), (1, 3)), False)
        self.assertIs(under((1, 2), (1, 2)), False)
        self.assertIs(under((-1, 2), (-1, 3)), True)
        self.assertIs(under((-1, 3), (-1, 2)), False)
        self.assertIs(under((-1, 2), (0, 1)), True)
        self.assertIs(under((0, 1), (0, 1)), False)

    def test_argument_names(self):
        self.assertEqual(plus(one=(1, 2), other=(1, 3)), (5, 6))
        self.assertEqual(minus(one=(1, 2), other=(1, 3)), (1, 6))
        self.assertEqual(times(one=(1, 2), other=(1, 3)), (1, 6))
        self.assertEqual(over(one=(1, 2), other=(1, 3)), (3, 2))
        self.assertIs(under(one=(1, 2), other=(1, 3)), False)

    def test_a_long_sum(self):
        told = (0, 1)
        for bottom in range(1, 1001):
            told = plus(told, (1, bottom))
        # 1 + 1/2 + .. + 1/1000, with one reckoning at the end alone.
        bottoms = 1
        for bottom in range(1, 1001):
            bottoms = bottoms * bottom // gcd(bottoms, bottom)
        tops = sum(bottoms // bottom for bottom in range(1, 1001))
        self.assert_fraction(told, as_tuple(Fraction(tops, bottoms)))


if __name__ == "__main__":
    unittest.main()
