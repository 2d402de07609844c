"""Point [40]: sums of rates."""

import unittest
from fractions import Fraction

from outlasts.books import rows
from outlasts.rates import rate_at, rates
from things import CUT, GAP, LATE, PLAIN, Asked, late_forties, plain_forties, random_books


class Rates(Asked):
    def test_by_hand(self):
        self.assertEqual(rates(LATE), [(5, (2, 3)), (9, (7, 6))])
        self.assertEqual(rates(GAP), [(3, (1, 1)), (9, (3, 2))])
        self.assertEqual(rates(PLAIN), [(5, (1, 4)), (9, (5, 4))])
        self.assertEqual(rates(((0, 1, 1), (0, 2, 2), (0, 3, 3), (0, 4, 4))),
                         [(1, (1, 4)), (2, (7, 12)), (3, (13, 12)), (4, (25, 12))])

    def test_cut_off_alone(self):
        self.assertEqual(rates(CUT), [])
        for time in (0, 7, 9, 9_999):
            self.assertEqual(rate_at(CUT, time), (0, 1))

    def test_up_to_any_time(self):
        for time, wanted in ((0, 0), (1, 0), (4, 0), (5, "2/3"), (6, "2/3"), (8, "2/3"), (9, "7/6"), (10, "7/6"),
                             (999, "7/6"), (9_999, "7/6")):
            with self.subTest(time=time):
                self.assert_fraction(rate_at(LATE, time), wanted)

    def test_all_kinds_of_end_count(self):
        for end in (1, 2, 3, 4):
            self.assertEqual(rates(((0, 5, end), (0, 5, 0), (0, 9, 0))), [(5, (1, 3))])

    def test_late_begins_make_sums_above_one(self):
        book = tuple((at, at + 1, 1) for at in range(40))
        self.assertEqual(rates(book), [(at, (at, 1)) for at in range(1, 41)])
        self.assertEqual(rate_at(book, 9_999), (40, 1))

    def test_against_plain_reckoning(self):
        for book in random_books(40) + plain_forties() + late_forties():
            told = rates(book)
            self.assertEqual([time for time, _ in told], [row[0] for row in rows(book)])
            for time, so_far in told:
                self.assertEqual(rate_at(book, time), so_far)
            for time in (0, 1, 2, 3, 5, 8, 9, 12, 40, 980, 999, 9_999):
                wanted = sum((Fraction(sum(ends), many) for at, many, ends in rows(book) if at <= time), Fraction(0))
                self.assert_fraction(rate_at(book, time), wanted)


if __name__ == "__main__":
    unittest.main()
