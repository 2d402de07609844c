"""Point [22]: the worth of parts of a book, and the parts of the greatest worth."""

import unittest
from fractions import Fraction
from itertools import product
from random import Random

from outlasts.books import rows
from outlasts.errors import NoBook, NoParts
from outlasts.shares import best_parts, shares, worth
from things import (
    CUT, GAP, LATE, Asked, bad_books, bad_fractions, frac, late_forties, odd_things, plain_forties, random_books,
)


def told(fraction):
    return (fraction.numerator, fraction.denominator)


def plain_worth(book, parts):
    """The worth, one watched span after another."""
    whole = Fraction(1)
    for (time, _, _), part in zip(rows(book), parts):
        for begin, until, end in book:
            if begin < time <= until:
                whole *= 1 - frac(part) if until == time and end > 0 else frac(part)
    return whole


class Worth(Asked):
    def test_by_hand(self):
        for parts, wanted in ((((1, 3), (1, 2)), "1/27"), (((1, 2), (1, 2)), "1/32"), (((2, 3), (1, 4)), "1/72"),
                              (((0, 1), (1, 2)), 0), (((1, 1), (1, 2)), 0), (((1, 3), (0, 1)), 0),
                              (((1, 3), (1, 1)), 0)):
            with self.subTest(parts=parts):
                self.assert_fraction(worth(LATE, parts), wanted)

    def test_of_a_book_without_rows(self):
        for book in (CUT, ((0, 7, 0),), ((0, 7, 0),) * 40):
            self.assertEqual(worth(book, ()), (1, 1))
            self.assertEqual(best_parts(book), ())

    def test_a_part_nought_where_none_was_left(self):
        self.assert_fraction(worth(((0, 7, 1),), ((0, 1),)), 1)
        self.assert_fraction(worth(((0, 7, 1),) * 40, ((0, 1),)), 1)
        self.assert_fraction(worth(GAP, ((0, 1), (1, 2))), "1/4")

    def test_a_part_nought_where_some_were_left(self):
        self.assert_fraction(worth(((0, 7, 1), (0, 7, 0)), ((0, 1),)), 0)

    def test_a_part_one_is_worth_nothing_in_a_row(self):
        # In each row at least one ended.
        self.assert_fraction(worth(((0, 7, 1),), ((1, 1),)), 0)
        self.assert_fraction(worth(((0, 7, 1), (0, 9, 0)), ((1, 1),)), 0)

    def test_one_row(self):
        book = ((0, 4, 1), (0, 4, 2), (0, 4, 0), (0, 9, 0), (0, 3, 0))
        self.assert_fraction(worth(book, ((1, 2),)), "1/16")
        self.assert_fraction(worth(book, ((1, 3),)), "4/81")
        self.assert_fraction(worth(book, ((2, 3),)), "4/81")

    def test_against_plain_reckoning(self):
        source = Random(22)
        some = [(0, 1), (1, 1), (1, 2), (1, 3), (2, 3), (3, 7), (999_999_999_998, 999_999_999_999)]
        for book in random_books(22) + late_forties():
            for _ in range(4):
                parts = tuple(source.choice(some) for _ in rows(book))
                self.assert_fraction(worth(book, parts), plain_worth(book, parts))

    def test_of_forty(self):
        for book in plain_forties() + late_forties():
            twelve_figures = ((499_999_999_979, 999_999_999_989),) * len(rows(book))
            for parts in (best_parts(book), twelve_figures):
                self.assert_fraction(worth(book, parts), plain_worth(book, parts))


class BestParts(Asked):
    def test_by_hand(self):
        self.assertEqual(best_parts(LATE), ((1, 3), (1, 2)))
        self.assertEqual(best_parts(GAP), ((0, 1), (1, 2)))
        self.assertEqual(best_parts(((0, 5, 1), (0, 5, 0), (0, 6, 0), (0, 9, 3))), ((3, 4), (0, 1)))

    def test_it_is_a_tuple_of_fractions(self):
        for book in random_books(24, 40) + plain_forties():
            self.assertIs(type(best_parts(book)), tuple)
            for row, part in zip(rows(book), best_parts(book), strict=True):
                self.assert_fraction(part, Fraction(row[1] - sum(row[2]), row[1]))

    def test_they_are_the_parts_of_the_shares(self):
        for book in random_books(25, 60):
            share = Fraction(1)
            for part, (_, beyond) in zip(best_parts(book), shares(book), strict=True):
                share *= frac(part)
                self.assert_fraction(beyond, share)

    def test_no_others_are_worth_as_much(self):
        steps = [told(Fraction(at, 12)) for at in range(13)]
        for book in (LATE, GAP, ((0, 4, 1), (0, 9, 2), (0, 9, 0)), ((0, 7, 1),)):
            best = best_parts(book)
            for parts in product(steps, repeat=len(best)):
                if parts != best:
                    self.assertLess(frac(worth(book, parts)), frac(worth(book, best)), (book, parts))

    def test_none_drawn_is_worth_as_much(self):
        source = Random(26)
        for book in random_books(26):
            best = best_parts(book)
            for _ in range(5):
                parts = list(best)
                if parts:
                    parts[source.randrange(len(parts))] = told(Fraction(source.randint(0, 20), 20))
                if tuple(parts) != best:
                    self.assertLess(frac(worth(book, tuple(parts))), frac(worth(book, best)))


class Refusals(Asked):
    def test_how_many_parts(self):
        half = (1, 2)
        for parts in ((), (half,), (half,) * 3, (half,) * 40):
            self.assert_refused(NoParts, worth, LATE, parts)
        for parts in ((half,), (half,) * 2, ((1, 1),)):
            self.assert_refused(NoParts, worth, CUT, parts)

    def test_lists_and_other_things(self):
        for parts in [[(1, 2), (1, 2)], {0: (1, 2), 1: (1, 2)}, 0, 1, (1, 2), "12"] + odd_things():
            with self.subTest(parts=parts):
                self.assert_refused(NoParts, worth, LATE, parts)
        for parts in ([], {}, "", None, False, 0):
            self.assert_refused(NoParts, worth, CUT, parts)

    def test_one_part_is_none(self):
        for bad in bad_fractions():
            with self.subTest(bad=bad):
                self.assert_refused(NoParts, worth, LATE, (bad, (1, 2)))
                self.assert_refused(NoParts, worth, LATE, ((1, 2), bad))
                self.assert_refused(NoParts, worth, ((0, 7, 1),), (bad,))

    def test_no_book_ahead_of_no_parts(self):
        for book in bad_books():
            for parts in ((), ((1, 2),), None, [], ((2, 4),)):
                self.assert_refused(NoBook, worth, book, parts)


if __name__ == "__main__":
    unittest.main()
