"""Points [50] and [51]: what came by a kind of end, and the books in which one kind is left."""

import unittest
from fractions import Fraction

from outlasts.books import is_book, rows
from outlasts.errors import NoBook, NoKind, NoTime
from outlasts.kinds import alone, came, came_at, one_kind
from outlasts.shares import share_at, shares
from things import (
    CUT, GAP, LATE, PLAIN, Asked, bad_books, bad_kinds, bad_times, frac, late_forties, plain_forties, random_books,
)

KINDS = (1, 2, 3, 4)
TIMES = (0, 1, 2, 3, 4, 5, 6, 7, 8, 9, 12, 40, 980, 999, 9_999)


def many_books():
    return random_books(50) + plain_forties() + late_forties()


class Came(Asked):
    def test_by_hand(self):
        self.assertEqual(came(LATE, 1), [(5, (1, 3)), (9, (1, 3))])
        self.assertEqual(came(LATE, 2), [(5, (0, 1)), (9, (1, 6))])
        self.assertEqual(came(LATE, 3), [(5, (1, 3)), (9, (1, 3))])
        self.assertEqual(came(LATE, 4), [(5, (0, 1)), (9, (0, 1))])

    def test_of_a_plain_book(self):
        self.assertEqual(came(PLAIN, 1), [(5, (1, 4)), (9, (1, 4))])
        self.assertEqual(came(PLAIN, 2), [(5, (0, 1)), (9, (3, 4))])

    def test_once_the_share_is_nought_nothing_more_comes(self):
        self.assertEqual(came(GAP, 1), [(3, (1, 2)), (9, (1, 2))])
        self.assertEqual(came(GAP, 2), [(3, (1, 2)), (9, (1, 2))])

    def test_cut_off_alone(self):
        for end in KINDS:
            self.assertEqual(came(CUT, end), [])
            for time in (0, 7, 9, 9_999):
                self.assertEqual(came_at(CUT, end, time), (0, 1))

    def test_kinds_that_the_book_does_not_have(self):
        book = ((0, 5, 2), (0, 7, 2), (0, 9, 0))
        for end in (1, 3, 4):
            self.assertEqual(came(book, end), [(5, (0, 1)), (7, (0, 1))])
            self.assertEqual(came_at(book, end, 9_999), (0, 1))
        self.assertEqual(came(book, 2), [(5, (1, 3)), (7, (2, 3))])

    def test_around_the_rows(self):
        for time, wanted in ((0, 0), (4, 0), (5, 0), (8, 0), (9, "1/6"), (10, "1/6"), (999, "1/6"), (9_999, "1/6")):
            self.assert_fraction(came_at(LATE, 2, time), wanted)
        for time, wanted in ((0, 0), (4, 0), (5, "1/3"), (6, "1/3"), (9, "1/3"), (9_999, "1/3")):
            self.assert_fraction(came_at(LATE, 3, time), wanted)

    def test_against_plain_reckoning(self):
        for book in many_books():
            for end in KINDS:
                told = came(book, end)
                self.assertEqual([time for time, _ in told], [row[0] for row in rows(book)])
                so_far = Fraction(0)
                for (time, many, ends), (_, worth) in zip(rows(book), told):
                    so_far += frac(share_at(book, time - 1)) * Fraction(ends[end - 1], many)
                    self.assert_fraction(worth, so_far)
                    self.assert_fraction(came_at(book, end, time), so_far)

    def test_all_kinds_and_the_share_are_one_together(self):
        for book in many_books():
            for time in TIMES:
                whole = sum((frac(came_at(book, end, time)) for end in KINDS), frac(share_at(book, time)))
                self.assertEqual(whole, 1, (book, time))

    def test_of_one_kind_it_is_what_the_share_has_lost(self):
        for book in random_books(51, 50):
            wanted = [(time, 1 - frac(share)) for time, share in shares(book)]
            self.assertEqual([(time, frac(worth)) for time, worth in came(one_kind(book), 1)], wanted)


class Alone(Asked):
    def test_by_hand(self):
        self.assertEqual(alone(LATE, 1), ((0, 5, 1), (2, 5, 0), (5, 9, 0), (4, 5, 0), (6, 9, 0)))
        self.assertEqual(alone(LATE, 2), ((0, 5, 0), (2, 5, 0), (5, 9, 2), (4, 5, 0), (6, 9, 0)))
        self.assertEqual(alone(LATE, 3), ((0, 5, 0), (2, 5, 0), (5, 9, 0), (4, 5, 3), (6, 9, 0)))
        self.assertEqual(alone(LATE, 4), ((0, 5, 0), (2, 5, 0), (5, 9, 0), (4, 5, 0), (6, 9, 0)))

    def test_span_by_span(self):
        for book in many_books():
            for end in KINDS:
                told = alone(book, end)
                self.assertIs(is_book(told), True)
                for span, kept in zip(book, told, strict=True):
                    self.assertEqual(kept, span if span[2] == end else (span[0], span[1], 0))

    def test_once_more_is_as_it_was(self):
        for book in many_books():
            for end in KINDS:
                told = alone(book, end)
                self.assertEqual(alone(told, end), told)

    def test_another_kind_of_it_leaves_none(self):
        self.assertEqual(rows(alone(alone(LATE, 1), 2)), [])


class OneKind(Asked):
    def test_by_hand(self):
        self.assertEqual(one_kind(LATE), ((0, 5, 1), (2, 5, 0), (5, 9, 1), (4, 5, 1), (6, 9, 0)))
        self.assertEqual(one_kind(CUT), CUT)

    def test_span_by_span(self):
        for book in many_books():
            told = one_kind(book)
            self.assertIs(is_book(told), True)
            for span, kept in zip(book, told, strict=True):
                self.assertEqual(kept, (span[0], span[1], min(span[2], 1)))

    def test_once_more_is_as_it_was(self):
        for book in many_books():
            self.assertEqual(one_kind(one_kind(book)), one_kind(book))

    def test_the_shares_stay(self):
        for book in many_books():
            self.assertEqual(shares(one_kind(book)), shares(book))


class Refusals(Asked):
    def test_no_kind(self):
        for end in bad_kinds():
            with self.subTest(end=end):
                self.assert_refused(NoKind, came, LATE, end)
                self.assert_refused(NoKind, came, CUT, end)
                self.assert_refused(NoKind, alone, LATE, end)
                self.assert_refused(NoKind, alone, CUT, end)
                for time in (5, -1, None, True):
                    self.assert_refused(NoKind, came_at, LATE, end, time)

    def test_no_book_ahead_of_no_kind(self):
        for book in bad_books():
            for end in (1, 0, 5, True, None, "1"):
                self.assert_refused(NoBook, came, book, end)
                self.assert_refused(NoBook, alone, book, end)
                for time in (5, -1, None):
                    self.assert_refused(NoBook, came_at, book, end, time)

    def test_no_time_behind_them(self):
        for time in bad_times():
            for end in KINDS:
                self.assert_refused(NoTime, came_at, LATE, end, time)
                self.assert_refused(NoTime, came_at, CUT, end, time)


if __name__ == "__main__":
    unittest.main()
