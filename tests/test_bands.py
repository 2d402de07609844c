"""Point [80]: the sureness of a band, and the narrowest band of a full book that is sure enough."""

import unittest
from fractions import Fraction
from itertools import combinations, permutations
from math import comb
from random import Random

from outlasts.bands import band, sureness
from outlasts.errors import NoBand, NoBook, NoFull, NoNumber, NoShare
from things import Asked, bad_books, bad_fractions, frac, odd_things

HALF = (1, 2)
FOUR = ((0, 9, 1), (0, 3, 4), (0, 5, 2), (0, 3, 1))
SHARES = ((1, 2), (1, 3), (9, 10), (1, 999_999_999_999), (499_999_999_979, 999_999_999_989))


def plain_sureness(many, share, i, j):
    p = frac(share)
    return sum((comb(many, k) * p ** k * (1 - p) ** (many - k) for k in range(i, j)), Fraction(0))


def plain_band(book, share, sure):
    """The least of all bands that are sure enough, by j less i and then by i."""
    untils = sorted(until for _, until, _ in book)
    found = [(j - i, i, j) for i, j in combinations(range(1, len(book) + 1), 2)
             if plain_sureness(len(book), share, i, j) >= frac(sure)]
    if not found:
        return None
    _, i, j = min(found)
    return (untils[i - 1], untils[j - 1], i, j)


def full_books():
    source = Random(80)
    return [tuple((0, source.randint(1, 12), source.randint(1, 4)) for _ in range(source.randint(1, 9)))
            for _ in range(60)]


def bad_inner_shares():
    return [(0, 1), (1, 1)] + bad_fractions()


class Sureness(Asked):
    def test_by_hand(self):
        for many, share, i, j, wanted in (
            (2, HALF, 1, 2, "1/2"), (2, (1, 3), 1, 2, "4/9"), (3, HALF, 1, 3, "3/4"), (3, HALF, 2, 3, "3/8"),
            (3, (1, 3), 1, 2, "4/9"), (3, (1, 3), 2, 3, "2/9"), (4, (1, 4), 1, 3, "81/128"), (5, HALF, 1, 5, "15/16"),
            (10, HALF, 2, 9, "501/512"),
        ):
            with self.subTest(many=many, share=share, i=i, j=j):
                self.assert_fraction(sureness(many, share, i, j), wanted)

    def test_from_the_first_to_the_last(self):
        for many in (2, 3, 12, 39, 40):
            for share in SHARES:
                p = frac(share)
                self.assert_fraction(sureness(many, share, 1, many), 1 - p ** many - (1 - p) ** many)

    def test_of_two_next_to_each_other(self):
        for many in (2, 7, 40):
            for i in range(1, many):
                self.assert_fraction(sureness(many, (2, 7), i, i + 1), plain_sureness(many, (2, 7), i, i + 1))

    def test_against_plain_reckoning(self):
        for many in (2, 5, 6, 11):
            for share in SHARES:
                for i, j in combinations(range(1, many + 1), 2):
                    self.assert_fraction(sureness(many, share, i, j), plain_sureness(many, share, i, j))

    def test_of_forty(self):
        for i, j in ((1, 2), (1, 40), (39, 40), (14, 27), (20, 21)):
            for share in SHARES:
                self.assert_fraction(sureness(40, share, i, j), plain_sureness(40, share, i, j))

    def test_by_name_in_another_order(self):
        self.assert_fraction(sureness(j=3, i=1, share=HALF, many=3), "3/4")
        self.assert_fraction(sureness(3, HALF, j=3, i=1), "3/4")


class SurenessRefused(Asked):
    def test_no_number_ahead_of_all(self):
        for many in [0, 41, -1, 42, 999_999_999_999, -999_999_999_999, "2", (2,), [2], HALF] + odd_things():
            with self.subTest(many=many):
                for share, i, j in ((HALF, 1, 2), ((2, 4), 1, 2), (None, None, None), (HALF, 2, 1)):
                    self.assert_refused(NoNumber, sureness, many, share, i, j)

    def test_no_share_ahead_of_no_band(self):
        for share in bad_inner_shares():
            with self.subTest(share=share):
                for many, i, j in ((1, 1, 1), (2, 1, 2), (40, 0, 41), (3, None, True), (3, 3, 1)):
                    self.assert_refused(NoShare, sureness, many, share, i, j)

    def test_of_one_there_is_no_band(self):
        for i, j in ((1, 1), (1, 2), (0, 1), (0, 0), (2, 1), (2, 3)):
            self.assert_refused(NoBand, sureness, 1, HALF, i, j)

    def test_no_band(self):
        for many in (2, 5, 40):
            for i, j in ((0, 1), (0, 2), (-1, 2), (1, 1), (2, 2), (2, 1), (many, many), (1, many + 1),
                         (many, many + 1), (many, 1), (-2, -1), (1, 999_999_999_999), (1, 0)):
                self.assert_refused(NoBand, sureness, many, HALF, i, j)

    def test_no_band_of_other_things(self):
        for thing in ["1", "2", (1,), [1], HALF, [2]] + odd_things():
            with self.subTest(thing=thing):
                self.assert_refused(NoBand, sureness, 5, HALF, thing, 2)
                self.assert_refused(NoBand, sureness, 5, HALF, 1, thing)
                self.assert_refused(NoBand, sureness, 5, HALF, thing, thing)

    def test_truths_are_no_numbers(self):
        self.assert_refused(NoNumber, sureness, True, HALF, 1, 2)
        self.assert_refused(NoBand, sureness, 2, HALF, True, 2)
        self.assert_refused(NoBand, sureness, 2, HALF, False, True)

    def test_edges_are_taken(self):
        for many in (2, 40):
            for i, j in ((1, 2), (1, many), (many - 1, many)):
                self.assert_fraction(sureness(many, HALF, i, j), plain_sureness(many, HALF, i, j))


class Band(Asked):
    def test_by_hand(self):
        # Of four by one half, k has 1, 4, 6, 4, 1 of 16.
        for sure, wanted in (((0, 1), (3, 3, 1, 2)), ((1, 4), (3, 3, 1, 2)), ((3, 8), (3, 5, 2, 3)),
                             ((5, 8), (3, 5, 1, 3)), ((7, 8), (3, 9, 1, 4)), ((1, 1), None)):
            with self.subTest(sure=sure):
                self.assertEqual(band(FOUR, HALF, sure), wanted)

    def test_a_little_more_than_a_band_has(self):
        little = Fraction(1, 10 ** 11)
        for sure, wanted in ((Fraction(1, 4), (3, 5, 2, 3)), (Fraction(3, 8), (3, 5, 1, 3)),
                             (Fraction(5, 8), (3, 9, 1, 4)), (Fraction(7, 8), None)):
            more = sure + little
            self.assertEqual(band(FOUR, HALF, (more.numerator, more.denominator)), wanted)

    def test_the_order_of_the_book_does_not_matter(self):
        for book in permutations(FOUR):
            self.assertEqual(band(book, HALF, (3, 8)), (3, 5, 2, 3))

    def test_of_several_the_least_i(self):
        # Of five, 2 and 3 have 10 of 32 each.
        book = tuple((0, until, 1) for until in (50, 10, 40, 20, 30))
        self.assertEqual(band(book, HALF, (1, 2)), (20, 40, 2, 4))
        self.assertEqual(band(book, HALF, (5, 16)), (20, 30, 2, 3))
        self.assertEqual(band(book, HALF, (15, 32)), (10, 30, 1, 3))

    def test_alike_untils(self):
        self.assertEqual(band(((0, 7, 1),) * 5, (1, 3), (1, 2)), (7, 7, 1, 3))

    def test_none_of_one_span(self):
        for share in SHARES:
            for sure in ((0, 1), HALF, (1, 1)):
                self.assertIsNone(band(((0, 7, 1),), share, sure))

    def test_wanting_nothing_it_is_the_first(self):
        for book in full_books():
            if len(book) > 1:
                untils = sorted(until for _, until, _ in book)
                self.assertEqual(band(book, (1, 3), (0, 1)), (untils[0], untils[1], 1, 2))

    def test_wanting_all_there_is_none(self):
        for book in full_books():
            self.assertIsNone(band(book, (1, 3), (1, 1)))

    def test_just_what_the_widest_has(self):
        for book in full_books():
            if len(book) > 1:
                told = band(book, HALF, sureness(len(book), HALF, 1, len(book)))
                self.assertEqual(told[2:], (1, len(book)))

    def test_against_plain_reckoning(self):
        for book in full_books():
            for share in ((1, 2), (1, 3), (5, 7)):
                for sure in ((1, 10), (1, 3), (1, 2), (2, 3), (9, 10)):
                    self.assertEqual(band(book, share, sure), plain_band(book, share, sure))

    def test_of_forty(self):
        book = tuple((0, 999 - at * 17 % 40, 1 + at % 4) for at in range(40))
        for share in SHARES:
            for sure in ((0, 1), (1, 2), (19, 20), (999_999_999_998, 999_999_999_999), (1, 1)):
                self.assertEqual(band(book, share, sure), plain_band(book, share, sure))

    def test_it_is_a_tuple_of_whole_numbers(self):
        told = band(FOUR, HALF, HALF)
        self.assertEqual([type(told)] + [type(part) for part in told], [tuple] + [int] * 4)

    def test_by_name_in_another_order(self):
        self.assertEqual(band(sure=(3, 8), share=HALF, book=FOUR), (3, 5, 2, 3))

    def test_a_told_sureness_may_be_handed_in_again(self):
        share = SHARES[-1]
        book = tuple((0, 1 + at, 1) for at in range(40))
        told = sureness(40, share, 1, 40)
        self.assertEqual(band(book, share, told), (1, 40, 1, 40))


class BandRefused(Asked):
    def test_no_full_ahead_of_no_share(self):
        for book in (((1, 7, 1),), ((0, 7, 1), (3, 7, 1)), ((0, 7, 0),), ((0, 7, 1), (0, 9, 0)), ((1, 7, 0),),
                     ((0, 7, 1),) * 39 + ((998, 999, 1),)):
            for share, sure in ((HALF, HALF), (None, None), ((0, 1), HALF), (HALF, (2, 1))):
                self.assert_refused(NoFull, band, book, share, sure)

    def test_no_book_ahead_of_no_full(self):
        for book in bad_books() + [((1, 7, 0), (0, 7, 5)), [(1, 7, 1)], ((0, 7, 0),) * 41]:
            for share, sure in ((HALF, HALF), (None, None)):
                self.assert_refused(NoBook, band, book, share, sure)

    def test_no_share_of_the_share(self):
        for share in bad_inner_shares():
            for sure in (HALF, (0, 1), None, (2, 1)):
                self.assert_refused(NoShare, band, FOUR, share, sure)

    def test_no_share_of_the_sureness(self):
        for sure in bad_fractions():
            self.assert_refused(NoShare, band, FOUR, HALF, sure)
            self.assert_refused(NoShare, band, ((0, 7, 1),), HALF, sure)

    def test_nought_and_one_are_taken_as_a_sureness(self):
        self.assertEqual(band(FOUR, HALF, (0, 1)), (3, 3, 1, 2))
        self.assertIsNone(band(FOUR, HALF, (1, 1)))


if __name__ == "__main__":
    unittest.main()
