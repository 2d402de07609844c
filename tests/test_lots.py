"""Point [60]: marks, what was seen and what was due of lot 1, the score and its spread by each weighting."""

import unittest
from fractions import Fraction
from inspect import signature
from random import Random

from outlasts.books import rows
from outlasts.errors import NoBook, NoMarks, NoWord
from outlasts.lots import due, score, spread
from outlasts.shares import share_at
from things import (
    CUT, GAP, LATE, PLAIN, WORDS, Asked, bad_books, bad_marks, bad_words, frac, late_forties, plain_forties,
    random_books, random_marks,
)

# Ends at 2, 4 and 7, all watched from 0 on: n 5, 4, 2 and d 1, 2, 1.
HAND = ((0, 2, 1), (0, 4, 2), (0, 4, 1), (0, 7, 3), (0, 9, 0))
HAND_MARKS = (1, 0, 1, 0, 1)


def plain_weight(book, time, many, weighting):
    return {"one": Fraction(1), "many": Fraction(many), "share": frac(share_at(book, time - 1))}[weighting]


def plain_sums(book, marks, weighting):
    """(seen, due, score, spread), row by row as the document tells them."""
    seen, all_due, whole, wide = 0, Fraction(0), Fraction(0), Fraction(0)
    for time, n, ends in rows(book):
        d = sum(ends)
        m = sum(mark for (begin, until, _), mark in zip(book, marks) if begin < time <= until)
        lost = sum(mark for (_, until, end), mark in zip(book, marks) if until == time and end > 0)
        weight = plain_weight(book, time, n, weighting)
        seen += lost
        all_due += Fraction(d * m, n)
        whole += weight * (lost - Fraction(d * m, n))
        if n > 1:
            wide += weight ** 2 * Fraction(d * m * (n - m) * (n - d), n ** 2 * (n - 1))
    return seen, all_due, whole, wide


def marked_books():
    source = Random(60)
    books = [book for book in random_books(60) if len(book) > 1] + plain_forties() + late_forties()
    return [(book, random_marks(source, book)) for book in books]


class Due(Asked):
    def test_by_hand(self):
        # 1 * 3/5 + 2 * 2/4 + 1 * 1/2
        self.assertEqual(due(HAND, HAND_MARKS), (2, (21, 10)))
        self.assertEqual(due(HAND, (0, 1, 0, 1, 0)), (2, (19, 10)))

    def test_late_begins(self):
        # At 5 the first, second and fourth are watched, two of them end; at 9 the third and the fifth, one ends.
        self.assertEqual(due(LATE, (1, 0, 0, 0, 1)), (1, (7, 6)))
        self.assertEqual(due(LATE, (0, 1, 1, 0, 0)), (1, (7, 6)))

    def test_none_of_the_lot_is_watched_in_a_row(self):
        self.assertEqual(due(LATE, (1, 1, 0, 1, 0)), (2, (2, 1)))
        self.assertEqual(due(LATE, (0, 0, 1, 0, 1)), (1, (1, 1)))
        # Lot 1 begins behind the only end, or is cut off ahead of it.
        self.assertEqual(due(((0, 5, 1), (5, 9, 0)), (0, 1)), (0, (0, 1)))
        self.assertEqual(due(((0, 5, 1), (0, 4, 0)), (0, 1)), (0, (0, 1)))

    def test_cut_off_at_the_time_of_a_row_is_still_watched(self):
        self.assertEqual(due(((0, 5, 1), (0, 5, 0)), (0, 1)), (0, (1, 2)))

    def test_ends_of_all_kinds_count_together(self):
        book = ((0, 3, 1), (0, 3, 2), (0, 3, 3), (0, 3, 4), (0, 3, 0), (0, 4, 2))
        self.assertEqual(due(book, (1, 1, 1, 1, 1, 0)), (4, (10, 3)))
        self.assertEqual(due(book, (1, 1, 1, 1, 0, 1)), (5, (13, 3)))

    def test_without_rows(self):
        for book, marks in ((CUT, (1, 0, 1)), (CUT, (0, 0, 1)), (((0, 7, 0), (0, 7, 0)), (0, 1))):
            told = due(book, marks)
            self.assertEqual(told, (0, (0, 1)))
            self.assertEqual([type(told), type(told[0]), type(told[1])], [tuple, int, tuple])

    def test_both_lots_together_have_all_ends(self):
        for book, marks in marked_books():
            (seen, one), (others, other) = due(book, marks), due(book, tuple(1 - mark for mark in marks))
            ends = sum(end > 0 for _, _, end in book)
            self.assertEqual((seen + others, frac(one) + frac(other)), (ends, ends))

    def test_against_plain_reckoning(self):
        for book, marks in marked_books():
            seen, all_due, _, _ = plain_sums(book, marks, "one")
            told = due(book, marks)
            self.assertEqual(told[0], seen)
            self.assertIs(type(told[0]), int)
            self.assert_fraction(told[1], all_due)


class Score(Asked):
    def test_by_hand(self):
        self.assert_fraction(score(HAND, HAND_MARKS, "one"), Fraction(-1, 10))
        # 5 * 2/5 + 4 * (1 - 1) + 2 * (0 - 1/2)
        self.assert_fraction(score(HAND, HAND_MARKS, "many"), 1)
        # 1 * 2/5 + 4/5 * 0 + 2/5 * (0 - 1/2)
        self.assert_fraction(score(HAND, HAND_MARKS, "share"), Fraction(1, 5))

    def test_below_nought(self):
        marks = (0, 0, 1, 1, 1)
        # At 2 -3/5, at 4 1 - 3/2, at 7 1 - 1.
        self.assert_fraction(score(HAND, marks), Fraction(-11, 10))
        self.assert_fraction(score(HAND, marks, "many"), -5)
        self.assert_fraction(score(HAND, marks, "share"), -1)

    def test_of_the_other_lot_it_is_the_other_way_about(self):
        for book, marks in marked_books():
            other = tuple(1 - mark for mark in marks)
            for word in WORDS:
                self.assertEqual(frac(score(book, marks, word)), -frac(score(book, other, word)))

    def test_the_weight_by_share_is_that_just_below_the_row(self):
        # Of the first row 1, though the share beyond it is 1/2.
        book = ((0, 5, 1), (0, 9, 0))
        self.assert_fraction(score(book, (1, 0), "share"), Fraction(1, 2))
        # Behind a row in which all watched ended 0.
        self.assert_fraction(score(GAP, (1, 0, 1, 0), "share"), 0)
        self.assert_fraction(score(GAP, (1, 0, 1, 0), "one"), Fraction(1, 2))
        self.assert_fraction(score(GAP, (1, 1, 1, 0), "many"), 1)

    def test_left_out_it_is_one(self):
        self.assertEqual(score(HAND, HAND_MARKS), (-1, 10))
        for book, marks in marked_books():
            self.assertEqual(score(book, marks), score(book, marks, "one"))
        for deed in (score, spread):
            self.assertEqual(signature(deed).parameters["weighting"].default, "one")

    def test_by_one_it_is_seen_less_due(self):
        for book, marks in marked_books():
            seen, all_due = due(book, marks)
            self.assert_fraction(score(book, marks, "one"), seen - frac(all_due))

    def test_without_rows(self):
        for word in WORDS:
            self.assertEqual(score(CUT, (1, 0, 1), word), (0, 1))
            self.assertEqual(spread(CUT, (1, 0, 1), word), (0, 1))

    def test_against_plain_reckoning(self):
        for book, marks in marked_books():
            for word in WORDS:
                self.assert_fraction(score(book, marks, word), plain_sums(book, marks, word)[2])


class Spread(Asked):
    def test_by_hand(self):
        # n 5, m 3, d 1: 24/100; n 4, m 2, d 2: 16/48; n 2, m 1, d 1: 1/4.
        self.assert_fraction(spread(HAND, HAND_MARKS), Fraction(6, 25) + Fraction(1, 3) + Fraction(1, 4))
        self.assert_fraction(spread(HAND, HAND_MARKS, "many"), 6 + Fraction(16, 3) + 1)
        self.assert_fraction(
            spread(HAND, HAND_MARKS, "share"),
            Fraction(6, 25) + Fraction(16, 25) / 3 + Fraction(4, 25) / 4,
        )

    def test_a_row_of_one_watched_adds_nothing(self):
        book = ((0, 5, 1), (0, 9, 2))
        self.assert_fraction(spread(book, (1, 0)), Fraction(1, 4))
        self.assert_fraction(spread(book, (0, 1)), Fraction(1, 4))
        self.assert_fraction(spread(book, (1, 0), "many"), 1)
        for word in WORDS:
            self.assertEqual(spread(((0, 5, 1), (5, 9, 2)), (1, 0), word), (0, 1))

    def test_a_row_in_which_all_or_one_lot_alone_is_watched_adds_nothing(self):
        for word in WORDS:
            self.assertEqual(spread(((0, 5, 1), (0, 5, 2)), (1, 0), word), (0, 1))
            self.assertEqual(spread(((0, 5, 1), (0, 5, 0), (5, 9, 0)), (1, 1, 0), word), (0, 1))
            self.assertEqual(spread(((0, 5, 1), (0, 5, 0), (5, 9, 0)), (0, 0, 1), word), (0, 1))

    def test_of_both_lots_it_is_the_same(self):
        for book, marks in marked_books():
            for word in WORDS:
                self.assertEqual(spread(book, marks, word), spread(book, tuple(1 - mark for mark in marks), word))

    def test_left_out_it_is_one(self):
        for book, marks in marked_books():
            self.assertEqual(spread(book, marks), spread(book, marks, "one"))

    def test_against_plain_reckoning(self):
        for book, marks in marked_books():
            for word in WORDS:
                self.assert_fraction(spread(book, marks, word), plain_sums(book, marks, word)[3])


class Refusals(Asked):
    def test_no_marks(self):
        for marks in bad_marks(PLAIN):
            with self.subTest(marks=marks):
                self.assert_refused(NoMarks, due, PLAIN, marks)
                for word in ("one", "none", None):
                    self.assert_refused(NoMarks, score, PLAIN, marks, word)
                    self.assert_refused(NoMarks, spread, PLAIN, marks, word)

    def test_of_one_span_there_are_no_marks(self):
        for book in (((0, 7, 1),), ((0, 7, 0),)):
            for marks in [(0,), (1,), (0, 1), (1, 0), ()] + bad_marks(book):
                self.assert_refused(NoMarks, due, book, marks)
                self.assert_refused(NoMarks, score, book, marks)
                self.assert_refused(NoMarks, spread, book, marks, "one")

    def test_no_word(self):
        for word in bad_words():
            with self.subTest(word=word):
                self.assert_refused(NoWord, score, HAND, HAND_MARKS, word)
                self.assert_refused(NoWord, spread, HAND, HAND_MARKS, word)
                self.assert_refused(NoWord, score, CUT, (1, 0, 1), word)
                self.assert_refused(NoWord, spread, CUT, (1, 0, 1), word)

    def test_no_book_ahead_of_them(self):
        for book in bad_books():
            for marks in ((1, 0), (0, 1, 2), None, []):
                self.assert_refused(NoBook, due, book, marks)
                for word in ("one", "None", None):
                    self.assert_refused(NoBook, score, book, marks, word)
                    self.assert_refused(NoBook, spread, book, marks, word)


if __name__ == "__main__":
    unittest.main()
