"""Points [20] and [21]: the share beyond a time, the time of a share, the mean up to a time, the spread."""

import unittest
from fractions import Fraction

from outlasts.books import rows
from outlasts.errors import NoBook, NoShare
from outlasts.shares import mean_upto, share_at, shares, spread_at, time_of
from things import (
    CUT, GAP, LATE, PLAIN, Asked, bad_books, bad_fractions, frac, late_forties, plain_forties, random_books,
)

ALL_END = ((0, 2, 1), (0, 4, 4), (0, 4, 2), (0, 7, 3))
LAST = 9_999


def plain_share(book, time):
    """The share beyond a time, straight from the spans."""
    share = Fraction(1)
    for at in range(1, min(time, 999) + 1):
        there = [end for begin, until, end in book if begin < at <= until]
        gone = [end for begin, until, end in book if until == at and end > 0]
        if gone:
            share *= Fraction(len(there) - len(gone), len(there))
    return share


class Shares(Asked):
    def test_around_the_rows(self):
        for time, wanted in ((0, 1), (1, 1), (4, 1), (5, "1/3"), (6, "1/3"), (8, "1/3"), (9, "1/6"), (10, "1/6"),
                             (999, "1/6"), (1_000, "1/6"), (LAST, "1/6")):
            with self.subTest(time=time):
                self.assert_fraction(share_at(LATE, time), wanted)
        self.assertEqual(shares(LATE), [(5, (1, 3)), (9, (1, 6))])

    def test_of_a_plain_book(self):
        self.assertEqual(shares(PLAIN), [(5, (3, 4)), (9, (0, 1))])
        self.assertEqual([share_at(PLAIN, time) for time in (3, 4, 5, 7, 8, 9)],
                         [(1, 1), (1, 1), (3, 4), (3, 4), (3, 4), (0, 1)])

    def test_cut_off_alone(self):
        for book in (CUT, ((0, 7, 0),), ((998, 999, 0),) * 40):
            self.assertEqual(shares(book), [])
            for time in (0, 6, 7, 8, 9, 999, LAST):
                self.assertEqual(share_at(book, time), (1, 1))

    def test_all_end(self):
        self.assertEqual(shares(ALL_END), [(2, (3, 4)), (4, (1, 4)), (7, (0, 1))])
        for time, wanted in ((1, 1), (2, "3/4"), (3, "3/4"), (4, "1/4"), (6, "1/4"), (7, 0), (8, 0), (LAST, 0)):
            self.assert_fraction(share_at(ALL_END, time), wanted)

    def test_all_end_at_one_time(self):
        book = ((0, 7, 1), (0, 7, 2), (0, 7, 1))
        self.assertEqual(shares(book), [(7, (0, 1))])
        self.assertEqual([share_at(book, time) for time in (0, 6, 7, LAST)], [(1, 1), (1, 1), (0, 1), (0, 1)])

    def test_the_share_stays_nought_though_others_begin_later(self):
        self.assertEqual(shares(GAP), [(3, (0, 1)), (9, (0, 1))])
        for time, wanted in ((2, 1), (3, 0), (4, 0), (7, 0), (9, 0), (LAST, 0)):
            self.assert_fraction(share_at(GAP, time), wanted)

    def test_cut_off_at_the_time_of_a_row_counts_as_watched(self):
        self.assertEqual(shares(((0, 5, 1), (0, 5, 0))), [(5, (1, 2))])
        self.assertEqual(shares(((0, 5, 1), (0, 4, 0))), [(5, (0, 1))])
        self.assertEqual(shares(((0, 5, 1), (0, 5, 0), (0, 5, 0), (0, 6, 1))), [(5, (3, 4)), (6, (0, 1))])

    def test_begin_at_the_time_of_a_row_is_not_watched_yet(self):
        self.assertEqual(shares(((0, 5, 1), (5, 6, 0))), [(5, (0, 1))])
        self.assertEqual(shares(((0, 5, 1), (4, 6, 0))), [(5, (1, 2))])

    def test_at_the_first_and_the_last_until(self):
        book = ((0, 1, 1), (0, 999, 2), (0, 999, 0))
        self.assertEqual(shares(book), [(1, (2, 3)), (999, (1, 3))])
        self.assertEqual([share_at(book, time) for time in (0, 1, 998, 999, 1_000)],
                         [(1, 1), (2, 3), (2, 3), (1, 3), (1, 3)])

    def test_kinds_of_end_make_no_difference(self):
        for end in (1, 2, 3, 4):
            self.assertEqual(shares(((0, 5, end), (0, 9, 0))), [(5, (1, 2))])

    def test_against_plain_reckoning(self):
        for book in random_books(20):
            for time in (0, 1, 2, 3, 4, 5, 6, 7, 8, 9, 10, 11, 12, 13):
                self.assert_fraction(share_at(book, time), plain_share(book, time))
            told = shares(book)
            self.assertEqual([at for at, _ in told], [row[0] for row in rows(book)])
            for at, share in told:
                self.assert_fraction(share, plain_share(book, at))

    def test_of_forty(self):
        for book in plain_forties() + late_forties():
            for at, share in shares(book):
                self.assert_fraction(share, plain_share(book, at))
                self.assertEqual(share_at(book, at), share)
            self.assert_fraction(share_at(book, LAST), plain_share(book, LAST))


class TimeOf(Asked):
    def test_by_hand(self):
        for share, wanted in (((1, 1), 5), ((1, 2), 5), ((17, 50), 5), ((1, 3), 5), ((33, 100), 9), ((17, 100), 9),
                              ((1, 6), 9), ((4, 25), None), ((0, 1), None)):
            with self.subTest(share=share):
                self.assertEqual(time_of(LATE, share), wanted)

    def test_all_end(self):
        for share, wanted in (((1, 1), 2), ((3, 4), 2), ((37, 50), 4), ((1, 2), 4), ((1, 4), 4), ((6, 25), 7),
                              ((1, 999_999_999_999), 7), ((0, 1), 7)):
            with self.subTest(share=share):
                self.assertEqual(time_of(ALL_END, share), wanted)

    def test_without_rows_there_is_none(self):
        for share in ((0, 1), (1, 2), (1, 1)):
            self.assertIsNone(time_of(CUT, share))

    def test_the_least_time_where_the_share_stays_nought(self):
        for share in ((0, 1), (1, 2), (1, 1)):
            self.assertEqual(time_of(GAP, share), 3)

    def test_a_little_less_and_more_than_what_the_book_has(self):
        for book in random_books(21):
            told = shares(book)
            for at, share in told:
                for moved in (frac(share) - Fraction(1, 10 ** 9), frac(share), frac(share) + Fraction(1, 10 ** 9)):
                    if 0 <= moved <= 1:
                        wanted = min([time for time, beyond in told if frac(beyond) <= moved], default=None)
                        self.assertEqual(time_of(book, (moved.numerator, moved.denominator)), wanted, (book, moved))

    def test_what_was_told_may_be_handed_in_again(self):
        for book in plain_forties() + late_forties():
            told = shares(book)
            for at, share in told:
                wanted = min(time for time, beyond in told if frac(beyond) <= frac(share))
                self.assertEqual(time_of(book, share), wanted)

    def test_no_share(self):
        for share in bad_fractions():
            with self.subTest(share=share):
                self.assert_refused(NoShare, time_of, LATE, share)
                self.assert_refused(NoShare, time_of, CUT, share)

    def test_no_book_ahead_of_no_share(self):
        for book in bad_books():
            for share in ((1, 2), (2, 4), None, [1, 2], True):
                self.assert_refused(NoBook, time_of, book, share)


class MeanUpto(Asked):
    def test_by_hand(self):
        for time, wanted in ((0, 0), (1, 1), (4, 4), (5, 5), (6, "16/3"), (9, "19/3"), (10, "13/2"), (11, "20/3"),
                             (LAST, "5014/3")):
            with self.subTest(time=time):
                self.assert_fraction(mean_upto(LATE, time), wanted)

    def test_cut_off_alone(self):
        for time in (0, 1, 2, 9, 1_000, LAST):
            self.assertEqual(mean_upto(CUT, time), (time, 1))

    def test_all_end(self):
        for time, wanted in ((2, 2), (3, "11/4"), (4, "7/2"), (5, "15/4"), (7, "17/4"), (8, "17/4"), (LAST, "17/4")):
            self.assert_fraction(mean_upto(ALL_END, time), wanted)

    def test_where_all_end_it_is_the_mean_of_the_untils(self):
        book = ((0, 3, 1), (0, 8, 1), (0, 8, 2), (0, 20, 1), (0, 999, 4))
        self.assert_fraction(mean_upto(book, LAST), Fraction(3 + 8 + 8 + 20 + 999, 5))

    def test_it_grows_by_the_share_from_one_time_to_the_next(self):
        for book in random_books(22, 60) + plain_forties()[1:4] + late_forties():
            mean = Fraction(0)
            for time in range(50):
                self.assert_fraction(mean_upto(book, time), mean)
                mean += plain_share(book, time)


class SpreadAt(Asked):
    def test_by_hand(self):
        for time, wanted in ((0, 0), (1, 0), (4, 0), (5, "2/27"), (8, "2/27"), (9, "7/216"), (10, "7/216"),
                             (LAST, "7/216")):
            with self.subTest(time=time):
                self.assert_fraction(spread_at(LATE, time), wanted)

    def test_without_cut_off_ones_it_is_share_times_the_rest_by_many(self):
        for time, share in ((1, Fraction(1)), (2, Fraction(3, 4)), (3, Fraction(3, 4)), (4, Fraction(1, 4))):
            self.assert_fraction(spread_at(ALL_END, time), share * (1 - share) / 4)

    def test_none_where_all_watched_end(self):
        for book, last in ((ALL_END, 6), (GAP, 2), (PLAIN, 8), (((0, 1, 1),), 0)):
            self.assertIsNotNone(spread_at(book, last))
            for time in (last + 1, last + 2, 9, 999, LAST):
                self.assertIsNone(spread_at(book, time))

    def test_cut_off_alone(self):
        for time in (0, 7, 9, LAST):
            self.assertEqual(spread_at(CUT, time), (0, 1))

    def test_against_plain_reckoning(self):
        for book in random_books(23) + plain_forties() + late_forties():
            for time in (0, 1, 3, 5, 6, 7, 9, 12, 30, 980, 999, LAST):
                past = [(many, sum(ends)) for at, many, ends in rows(book) if at <= time]
                if any(many == ended for many, ended in past):
                    self.assertIsNone(spread_at(book, time))
                else:
                    whole = sum((Fraction(ended, many * (many - ended)) for many, ended in past), Fraction(0))
                    self.assert_fraction(spread_at(book, time), plain_share(book, time) ** 2 * whole)


if __name__ == "__main__":
    unittest.main()
