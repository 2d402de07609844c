"""Point [70]: all dealings of marks, their scores, how many go as far, and the first that goes farthest."""

import unittest
from fractions import Fraction
from inspect import signature
from itertools import permutations, product
from math import comb
from random import Random

from outlasts.dealings import as_far, dealings, farthest
from outlasts.errors import NoBook, NoMarks, NoWord, TooMany
from outlasts.lots import score
from things import (
    CUT, GAP, LATE, PLAIN, WORDS, Asked, bad_books, bad_marks, bad_words, frac, random_book, random_marks,
    random_plain_book,
)

# Ends at 2, 5 and 9: by `one` the spans add 2/3, 1/6 and -5/6 to the score.
THREE = ((0, 2, 1), (0, 5, 2), (0, 9, 4))
TWELVE = tuple((at % 3, 5 + at * 5 % 7, at % 4) for at in range(12))
TWELVE_MARKS = (1, 0, 1, 1, 0, 0, 1, 0, 1, 0, 0, 1)
DEEDS = (dealings, as_far, farthest)


def plain_dealings(marks):
    """All marks with as many 1, rising as tuples compare."""
    return sorted(other for other in product((0, 1), repeat=len(marks)) if sum(other) == sum(marks))


def plain_scores(book, marks, weighting):
    return [(frac(score(book, dealing, weighting)), dealing) for dealing in plain_dealings(marks)]


def small_books():
    source = Random(70)
    books = [random_book(source)[:7] for _ in range(40)] + [random_plain_book(source)[:7] for _ in range(40)]
    return [(book, random_marks(source, book)) for book in books if len(book) > 1]


class Dealings(Asked):
    def test_by_hand(self):
        self.assertEqual(dealings(THREE, (1, 0, 0)), [((-5, 6), 1), ((1, 6), 1), ((2, 3), 1)])
        self.assertEqual(dealings(THREE, (0, 0, 1)), dealings(THREE, (1, 0, 0)))
        self.assertEqual(dealings(THREE, (1, 0, 1)), [((-2, 3), 1), ((-1, 6), 1), ((5, 6), 1)])

    def test_by_hand_by_many_and_by_share(self):
        # 3 * 2/3; -1 + 2 * 1/2; -1 - 1 + 0
        self.assertEqual(dealings(THREE, (1, 0, 0), "many"), [((-2, 1), 1), ((0, 1), 1), ((2, 1), 1)])
        # 2/3; -1/3 + 2/3 * 1/2; -1/3 - 2/3 * 1/2
        self.assertEqual(dealings(THREE, (1, 0, 0), "share"), [((-2, 3), 1), ((0, 1), 1), ((2, 3), 1)])

    def test_rising_as_numbers_and_not_as_tuples(self):
        told = [frac(worth) for worth, _ in dealings(TWELVE, TWELVE_MARKS)]
        self.assertEqual(told, sorted(told))
        self.assertEqual(len(told), len(set(told)))
        as_tuples = [worth for worth, _ in dealings(TWELVE, TWELVE_MARKS)]
        self.assertNotEqual(as_tuples, sorted(as_tuples))

    def test_like_spans_have_like_scores(self):
        book = ((0, 5, 1),) * 3 + ((0, 9, 0),) * 3
        # Of k of lot 1 among the first three, of three in all: k - 3/2.
        wanted = [((-3, 2), 1), ((-1, 2), 9), ((1, 2), 9), ((3, 2), 1)]
        self.assertEqual(dealings(book, (1, 1, 1, 0, 0, 0)), wanted)
        self.assertEqual(dealings(((0, 5, 1),) * 6, (1, 0, 0, 1, 0, 0)), [((0, 1), 15)])

    def test_without_rows(self):
        for word in WORDS:
            self.assertEqual(dealings(CUT, (1, 0, 1), word), [((0, 1), 3)])
            self.assertEqual(as_far(CUT, (1, 0, 1), word), (3, 3))
            self.assertEqual(farthest(CUT, (1, 0, 1), word), (0, 1, 1))

    def test_of_two(self):
        book = ((0, 5, 1), (0, 9, 0))
        self.assertEqual(dealings(book, (0, 1)), [((-1, 2), 1), ((1, 2), 1)])
        self.assertEqual(dealings(book, (1, 0), "many"), [((-1, 1), 1), ((1, 1), 1)])
        self.assertEqual(dealings(book, (1, 0), "share"), [((-1, 2), 1), ((1, 2), 1)])

    def test_against_plain_reckoning(self):
        for book, marks in small_books():
            for word in WORDS:
                scores = [worth for worth, _ in plain_scores(book, marks, word)]
                told = dealings(book, marks, word)
                self.assertEqual(len(told), len(set(scores)))
                for (worth, many), wanted in zip(told, sorted(set(scores)), strict=True):
                    self.assert_fraction(worth, wanted)
                    self.assertEqual(many, scores.count(wanted))
                    self.assertIs(type(many), int)

    def test_the_same_for_all_dealings_of_the_marks(self):
        for marks in set(permutations((1, 1, 0, 0, 0))):
            self.assertEqual(dealings(LATE, marks, "share"), dealings(LATE, (1, 0, 0, 1, 0), "share"))

    def test_counts_are_as_many_as_there_are_dealings(self):
        for ones in range(1, 12):
            marks = (1,) * ones + (0,) * (12 - ones)
            for word in WORDS:
                told = dealings(TWELVE, marks, word)
                self.assertEqual(sum(many for _, many in told), comb(12, ones))
                self.assertEqual(as_far(TWELVE, marks, word)[1], comb(12, ones))


class AsFar(Asked):
    def test_by_hand(self):
        self.assertEqual(as_far(THREE, (1, 0, 0)), (2, 3))
        self.assertEqual(as_far(THREE, (0, 1, 0)), (3, 3))
        self.assertEqual(as_far(THREE, (0, 0, 1)), (1, 3))

    def test_by_size_without_its_sign(self):
        book = ((0, 5, 1),) * 3 + ((0, 9, 0),) * 3
        for marks in ((1, 1, 1, 0, 0, 0), (0, 0, 0, 1, 1, 1)):
            self.assertEqual(as_far(book, marks), (2, 20))
        for marks in ((1, 1, 0, 1, 0, 0), (1, 0, 0, 1, 0, 1)):
            self.assertEqual(as_far(book, marks), (20, 20))

    def test_against_plain_reckoning(self):
        for book, marks in small_books():
            for word in WORDS:
                size = abs(frac(score(book, marks, word)))
                sizes = [abs(worth) for worth, _ in plain_scores(book, marks, word)]
                told = as_far(book, marks, word)
                self.assertEqual(told, (sum(other >= size for other in sizes), len(sizes)))
                self.assertEqual([type(told), type(told[0]), type(told[1])], [tuple, int, int])


class Farthest(Asked):
    def test_by_hand(self):
        self.assertEqual(farthest(THREE, (0, 0, 1)), (1, 0, 0))
        self.assertEqual(farthest(THREE, (0, 1, 1)), (1, 1, 0))

    def test_of_several_the_first(self):
        self.assertEqual(farthest(((0, 5, 1),) * 4, (1, 1, 0, 0)), (0, 0, 1, 1))
        self.assertEqual(farthest(((0, 9, 0), (0, 5, 1), (0, 5, 2), (0, 5, 1)), (1, 0, 0, 0)), (0, 0, 0, 1))
        self.assertEqual(farthest(((0, 5, 2), (0, 5, 1), (0, 9, 0), (0, 5, 1)), (1, 1, 0, 0)), (0, 1, 0, 1))

    def test_the_greatest_not_the_one_of_the_greatest_size(self):
        # By `one` (0, 0, 1) has -5/6, of greater size than all others.
        self.assertEqual(farthest(THREE, (0, 1, 0), weighting="one"), (1, 0, 0))

    def test_against_plain_reckoning(self):
        for book, marks in small_books():
            for word in WORDS:
                scores = plain_scores(book, marks, word)
                greatest = max(worth for worth, _ in scores)
                wanted = [dealing for worth, dealing in scores if worth == greatest][0]
                told = farthest(book, marks, word)
                self.assertEqual(told, wanted)
                self.assertEqual([type(told)] + [type(mark) for mark in told], [tuple] + [int] * len(book))


class Twelve(Asked):
    def test_by_each_weighting(self):
        for word in WORDS:
            scores = plain_scores(TWELVE, TWELVE_MARKS, word)
            only = [worth for worth, _ in scores]
            wanted = [((worth.numerator, worth.denominator), only.count(worth)) for worth in sorted(set(only))]
            self.assertEqual(dealings(TWELVE, TWELVE_MARKS, word), wanted)
            size = abs(frac(score(TWELVE, TWELVE_MARKS, word)))
            self.assertEqual(as_far(TWELVE, TWELVE_MARKS, word), (sum(abs(worth) >= size for worth in only), 924))
            self.assertEqual(farthest(TWELVE, TWELVE_MARKS, word),
                             [dealing for worth, dealing in scores if worth == max(only)][0])


class LeftOut(Asked):
    def test_it_is_one(self):
        for deed in DEEDS:
            self.assertEqual(signature(deed).parameters["weighting"].default, "one")
            for book, marks in small_books():
                self.assertEqual(deed(book, marks), deed(book, marks, "one"))


class Refusals(Asked):
    def assert_too_many(self, deed, *handed):
        with self.assertRaises(TooMany) as caught:
            deed(*handed)
        self.assertIs(type(caught.exception), TooMany)
        self.assertEqual((caught.exception.many, caught.exception.most), (len(handed[0]), 12))

    def test_too_many_ahead_of_marks_and_words(self):
        for deed in DEEDS:
            for many in (13, 14, 40):
                book = tuple((0, 1 + at, at % 5) for at in range(many))
                marks = (1,) + (0,) * (many - 1)
                self.assert_too_many(deed, book, marks)
                for bad in (None, (), [], (0,) * many, (1, 0), True):
                    self.assert_too_many(deed, book, bad)
                    self.assert_too_many(deed, book, bad, "none")
                    self.assert_too_many(deed, book, marks, bad)

    def test_twelve_are_taken(self):
        for deed in DEEDS:
            deed(TWELVE, TWELVE_MARKS, "many")

    def test_no_book_ahead_of_all(self):
        for deed in DEEDS:
            for book in bad_books():
                for marks, word in (((1, 0), "one"), (None, None), ((0, 2), "none")):
                    self.assert_refused(NoBook, deed, book, marks, word)

    def test_no_marks_ahead_of_no_word(self):
        for deed in DEEDS:
            for marks in bad_marks(PLAIN):
                for word in ("one", "none", None, 1):
                    self.assert_refused(NoMarks, deed, PLAIN, marks, word)
                self.assert_refused(NoMarks, deed, PLAIN, marks)
            for marks in ((0,), (1,), (), (0, 1)):
                self.assert_refused(NoMarks, deed, ((0, 7, 1),), marks)

    def test_no_word(self):
        for deed in DEEDS:
            for word in bad_words():
                self.assert_refused(NoWord, deed, GAP, (1, 0, 1, 0), word)


class Own(Asked):
    def test_each_list_is_the_askers_own(self):
        told = dealings(THREE, (1, 0, 0))
        kept = list(told)
        told.append("mine")
        told[0] = ((Fraction(1), 2), 3)
        self.assertEqual(dealings(THREE, (1, 0, 0)), kept)

    def test_what_is_told_may_be_handed_in_again(self):
        marks = farthest(LATE, (1, 0, 0, 1, 0))
        self.assertEqual(farthest(LATE, marks), marks)
        self.assertEqual(dealings(LATE, marks)[-1][0], score(LATE, marks))


if __name__ == "__main__":
    unittest.main()
