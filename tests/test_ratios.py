"""Point 4: numbers, compared with Python's own fractions."""

import unittest
from fractions import Fraction
from itertools import product
from math import gcd

from roomyway import ratios
from roomyway.ratios import is_less, middle, minus, over, plus, ratio, sign, times

HUGE = 10 ** 34 + 7
PAIRS = [(n, d) for n in range(-9, 10) for d in range(-9, 10) if d != 0]
NUMBERS = [(n, d) for n in range(-7, 8) for d in range(1, 6) if gcd(n, d) == 1] + [
    (HUGE, 1),
    (-HUGE, 3),
    (1, HUGE),
    (-1, HUGE),
    (HUGE, HUGE + 1),
    (HUGE - 1, HUGE),
    (10 ** 31 + 1, 10 ** 30),
]


def pair(fraction):
    return (fraction.numerator, fraction.denominator)


class Ratios(unittest.TestCase):

    def check(self, found, wanted):
        """The pair is the wanted one, and of plain integers."""
        self.assertIs(type(found), tuple)
        self.assertEqual([type(part) for part in found], [int, int])
        self.assertEqual(found, wanted)

    def test_small_pairs(self):
        for n, d in PAIRS:
            with self.subTest(n=n, d=d):
                self.check(ratio(n, d), pair(Fraction(n, d)))

    def test_examples(self):
        self.check(ratio(6, 4), (3, 2))
        self.check(ratio(-6, 4), (-3, 2))
        self.check(ratio(6, -4), (-3, 2))
        self.check(ratio(-6, -4), (3, 2))
        self.check(ratio(12, 3), (4, 1))
        self.check(ratio(3, 12), (1, 4))

    def test_zero_is_zero_over_one(self):
        for d in (1, -1, 2, -7, HUGE, -HUGE):
            with self.subTest(d=d):
                self.check(ratio(0, d), (0, 1))

    def test_large_integers(self):
        self.check(ratio(6 * HUGE, -4 * HUGE), (-3, 2))
        self.check(ratio(HUGE * HUGE, HUGE), (HUGE, 1))
        self.check(ratio(-HUGE, -HUGE * 10), (1, 10))
        self.check(ratio(2 ** 200, 6 ** 100), (2 ** 100, 3 ** 100))
        for n, d in product((10 ** 30, -10 ** 30 + 1, 7 * HUGE, -21 * HUGE), repeat=2):
            with self.subTest(n=n, d=d):
                self.check(ratio(n, d), pair(Fraction(n, d)))

    def test_sums_differences_products_and_middles(self):
        for a, b in product(NUMBERS, repeat=2):
            with self.subTest(a=a, b=b):
                first, second = Fraction(*a), Fraction(*b)
                self.check(plus(a, b), pair(first + second))
                self.check(minus(a, b), pair(first - second))
                self.check(times(a, b), pair(first * second))
                self.check(middle(a, b), pair((first + second) / 2))

    def test_quotients(self):
        for a, b in product(NUMBERS, repeat=2):
            if b == (0, 1):
                continue
            with self.subTest(a=a, b=b):
                self.check(over(a, b), pair(Fraction(*a) / Fraction(*b)))

    def test_a_number_and_its_opposite(self):
        for a in NUMBERS:
            with self.subTest(a=a):
                self.check(minus(a, a), (0, 1))
                self.check(plus(a, minus((0, 1), a)), (0, 1))
                self.check(middle(a, a), a)

    def test_is_less(self):
        for a, b in product(NUMBERS, repeat=2):
            with self.subTest(a=a, b=b):
                self.assertIs(is_less(a, b), Fraction(*a) < Fraction(*b))

    def test_is_less_where_rounding_would_fail(self):
        self.assertIs(is_less((HUGE - 1, HUGE), (HUGE, HUGE + 1)), True)
        self.assertIs(is_less((HUGE, HUGE + 1), (HUGE - 1, HUGE)), False)
        self.assertIs(is_less((HUGE, HUGE + 1), (HUGE, HUGE + 1)), False)

    def test_sign(self):
        for a in NUMBERS:
            with self.subTest(a=a):
                number = Fraction(*a)
                found = sign(a)
                self.assertIs(type(found), int)
                self.assertEqual(found, (number > 0) - (number < 0))
        self.assertEqual(sign((0, 1)), 0)
        self.assertEqual(sign((1, HUGE)), 1)
        self.assertEqual(sign((-1, HUGE)), -1)

    def test_the_same_call_gives_the_same_again(self):
        before = [plus(a, b) for a, b in product(NUMBERS, repeat=2)]
        times((1, 3), (5, 7))
        self.assertEqual([plus(a, b) for a, b in product(NUMBERS, repeat=2)], before)

    def test_each_is_defined_in_its_file(self):
        for name in ("ratio", "plus", "minus", "times", "over", "is_less", "sign", "middle"):
            with self.subTest(name=name):
                self.assertEqual(getattr(ratios, name).__module__, "roomyway.ratios")


if __name__ == "__main__":
    unittest.main()
