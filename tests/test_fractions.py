"""Point [2]: whole numbers and fractions, and the reckoning with these."""

import unittest
from fractions import Fraction
from itertools import product as pairs
from math import gcd

from outlasts import fractions
from things import bad_fractions, odd_things

SOME = [
    fractions.lowest(top, bottom)
    for top in (-999_999_999_999, -12, -3, -1, 0, 1, 2, 5, 12, 999_999_999_999)
    for bottom in (1, 2, 3, 12, 35, 999_999_999_999)
]


class Kinds(unittest.TestCase):
    def test_whole_numbers(self):
        for number in (0, 1, -1, 999_999_999_999, -999_999_999_999, 10 ** 200):
            self.assertIs(fractions.is_whole(number), True)

    def test_truths_and_odd_things_are_no_whole_numbers(self):
        for thing in odd_things():
            self.assertIs(fractions.is_whole(thing), False, thing)

    def test_fractions(self):
        for thing in ((0, 1), (1, 1), (1, 2), (-1, 2), (7, 1), (-7, 3), (35, 12), (10 ** 300 + 1, 10 ** 300)):
            self.assertIs(fractions.is_fraction(thing), True, thing)

    def test_no_fractions(self):
        wrong = [
            (2, 4), (0, 2), (-2, 4), (3, 3), (1, 0), (0, 0), (1, -2), (-1, -2), (0, -1), (6, 15),
            (1,), (1, 2, 3), [1, 2], (True, 2), (1, True), (False, 1), (0, True), ("1", 2), (1, None), ((1,), 2),
            (1, (2,)), 1, 0, "1/2", (10 ** 300, 10 ** 299),
        ]
        for thing in wrong + odd_things():
            self.assertIs(fractions.is_fraction(thing), False, thing)

    def test_parts(self):
        for thing in ((0, 1), (1, 1), (1, 2), (11, 12), (999_999_999_998, 999_999_999_999), (1, 10 ** 300)):
            self.assertIs(fractions.is_part(thing), True, thing)

    def test_no_parts(self):
        for thing in bad_fractions() + [(1_000_000_000_000, 999_999_999_999), (-1, 10 ** 300)]:
            self.assertIs(fractions.is_part(thing), False, thing)


class Reckoning(unittest.TestCase):
    def assert_told(self, told, wanted):
        """What is told is the tuple of the wanted worth in lowest terms, bottom above 0."""
        self.assertIs(type(told), tuple)
        self.assertEqual(told, (wanted.numerator, wanted.denominator))
        self.assertIs(type(told[0]), int)
        self.assertIs(type(told[1]), int)

    def test_common_divisor(self):
        for one, other in pairs(range(-13, 14), repeat=2):
            self.assertEqual(fractions.common_divisor(one, other), gcd(one, other))

    def test_lowest(self):
        for top, bottom in pairs(range(-13, 14), repeat=2):
            if bottom != 0:
                with self.subTest(top=top, bottom=bottom):
                    self.assert_told(fractions.lowest(top, bottom), Fraction(top, bottom))

    def test_lowest_of_nought_is_nought_over_one(self):
        for bottom in (1, -1, 2, -2, 35, -35):
            self.assertEqual(fractions.lowest(0, bottom), (0, 1))

    def test_lowest_of_big_ones(self):
        self.assertEqual(fractions.lowest(6 * 10 ** 400, -4 * 10 ** 400), (-3, 2))

    def test_bottom_nought_is_no_fraction(self):
        for top in (-1, 0, 1):
            with self.assertRaises(ZeroDivisionError):
                fractions.lowest(top, 0)
        with self.assertRaises(ZeroDivisionError):
            fractions.quotient((1, 2), (0, 1))

    def test_of_two(self):
        for one, other in pairs(SOME, repeat=2):
            first, second = Fraction(*one), Fraction(*other)
            with self.subTest(one=one, other=other):
                self.assert_told(fractions.plus(one, other), first + second)
                self.assert_told(fractions.minus(one, other), first - second)
                self.assert_told(fractions.product(one, other), first * second)
                if second != 0:
                    self.assert_told(fractions.quotient(one, other), first / second)
                self.assertIs(fractions.is_less(one, other), first < second)

    def test_power(self):
        for one in SOME:
            for often in range(6):
                self.assert_told(fractions.power(one, often), Fraction(*one) ** often)

    def test_total(self):
        for upto in range(len(SOME) + 1):
            wanted = sum((Fraction(*one) for one in SOME[:upto]), Fraction(0))
            self.assert_told(fractions.total(SOME[:upto]), wanted)

    def test_product_of(self):
        wanted = Fraction(1)
        some = [one for one in SOME if one[0] != 0] + [(0, 1), (1, 2)]
        for upto, one in enumerate(some):
            self.assert_told(fractions.product_of(some[:upto]), wanted)
            wanted *= Fraction(*one)
        self.assert_told(fractions.product_of(some), Fraction(0))

    def test_total_and_product_of_leave_their_list_alone(self):
        terms = [(1, 2), (2, 3)]
        self.assertEqual(fractions.total(terms), (7, 6))
        self.assertEqual(fractions.product_of(terms), (1, 3))
        self.assertEqual(terms, [(1, 2), (2, 3)])

    def test_over_one_bottom(self):
        self.assertEqual(fractions.over_one_bottom([]), ([], 1))
        self.assertEqual(fractions.over_one_bottom([(1, 6), (-3, 4), (0, 1), (2, 1)]), ([2, -9, 0, 24], 12))
        for upto in range(len(SOME) + 1):
            tops, bottom = fractions.over_one_bottom(SOME[:upto])
            self.assertEqual([Fraction(top, bottom) for top in tops], [Fraction(*one) for one in SOME[:upto]])

    def test_named_ones(self):
        self.assertEqual((fractions.NOUGHT, fractions.WHOLE), ((0, 1), (1, 1)))

    def test_what_is_told_is_a_fraction(self):
        for one, other in pairs(SOME, repeat=2):
            for told in (fractions.plus(one, other), fractions.minus(one, other), fractions.product(one, other)):
                self.assertIs(fractions.is_fraction(told), True)


if __name__ == "__main__":
    unittest.main()
