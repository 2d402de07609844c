"""Points [2] to [4] and [11], of every function over a book: what is refused, what is told anew, names of arguments."""

import unittest
from copy import deepcopy
from inspect import signature
from itertools import permutations

from outlasts import bands, dealings, handing, kinds, lots, rates, shares, texts, truths
from outlasts.books import is_book
from outlasts.errors import NoBook, NoTime
from outlasts.fractions import is_fraction
from things import CUT, PLAIN, WORDS, Asked, bad_books, bad_times, late_forties, plain_forties

HALF = (1, 2)
MARKS = (0, 1, 0, 0, 1)
FULL = ((0, 9, 1), (0, 3, 4), (0, 5, 2), (0, 3, 1))
SOON = ((0, 4, 1), (0, 5, 1), (0, 6, 1), (0, 9, 2), (0, 8, 1))
LATE = ((0, 2_000, 1), (0, 5, 1), (0, 2_000, 1), (0, 9, 2), (0, 2_000, 1))
# Each function with what is handed in by its names in the interface's order, all of them answered.
CALLS = [
    (shares.share_at, {"book": PLAIN, "time": 5}),
    (shares.shares, {"book": PLAIN}),
    (shares.time_of, {"book": PLAIN, "share": HALF}),
    (shares.mean_upto, {"book": PLAIN, "time": 5}),
    (shares.spread_at, {"book": PLAIN, "time": 5}),
    (shares.worth, {"book": PLAIN, "parts": (HALF, HALF)}),
    (shares.best_parts, {"book": PLAIN}),
    (handing.weights, {"book": PLAIN}),
    (handing.parcels, {"book": PLAIN}),
    (handing.are_parcels, {"book": PLAIN, "thing": [(0, 1, HALF)]}),
    (rates.rates, {"book": PLAIN}),
    (rates.rate_at, {"book": PLAIN, "time": 5}),
    (kinds.came, {"book": PLAIN, "end": 2}),
    (kinds.came_at, {"book": PLAIN, "end": 2, "time": 9}),
    (kinds.alone, {"book": PLAIN, "end": 2}),
    (kinds.one_kind, {"book": PLAIN}),
    (lots.due, {"book": PLAIN, "marks": MARKS}),
    (lots.score, {"book": PLAIN, "marks": MARKS, "weighting": "many"}),
    (lots.spread, {"book": PLAIN, "marks": MARKS, "weighting": "many"}),
    (dealings.dealings, {"book": PLAIN, "marks": MARKS, "weighting": "many"}),
    (dealings.as_far, {"book": PLAIN, "marks": MARKS, "weighting": "many"}),
    (dealings.farthest, {"book": PLAIN, "marks": MARKS, "weighting": "many"}),
    (bands.band, {"book": FULL, "share": HALF, "sure": (3, 8)}),
    (truths.is_truth, {"book": PLAIN, "thing": SOON}),
    (truths.bounds, {"book": PLAIN, "time": 5}),
    (truths.soonest, {"book": PLAIN}),
    (truths.latest, {"book": PLAIN}),
    (truths.may_outlast, {"one": PLAIN, "other": FULL}),
    (truths.must_outlast, {"one": PLAIN, "other": FULL}),
    (truths.shows_may, {"one": PLAIN, "other": FULL, "thing": (LATE, FULL)}),
    (truths.shows_never, {"one": FULL, "other": PLAIN, "thing": 3}),
    (truths.shows_not, {"one": FULL, "other": PLAIN, "thing": (FULL, SOON)}),
    (texts.book_text, {"book": PLAIN}),
]
ANSWERS = [
    (3, 4), [(5, (3, 4)), (9, (0, 1))], 9, (5, 1), (3, 64), (1, 32), ((3, 4), (0, 1)),
    [(0, 1), (1, 4), (0, 1), (3, 4), (0, 1)],
    [(0, 1, (1, 20)), (0, 2, (1, 20)), (0, 3, (1, 20)), (0, 4, (1, 20)), (2, 3, (1, 8)), (2, 4, (1, 8)),
     (4, 3, (3, 8))],
    False, [(5, (1, 4)), (9, (5, 4))], (1, 4), [(5, (0, 1)), (9, (3, 4))], (3, 4),
    ((0, 3, 0), (0, 5, 0), (0, 5, 0), (0, 9, 2), (0, 7, 0)), ((0, 3, 0), (0, 5, 1), (0, 5, 0), (0, 9, 1), (0, 7, 0)),
    (1, HALF), (2, 1), (4, 1), [((-2, 1), 3), ((-1, 1), 3), ((2, 1), 3), ((3, 1), 1)], (7, 10), (1, 1, 0, 0, 0),
    (3, 5, 2, 3), True, ((3, 5), (4, 5)), SOON, LATE, ("may", LATE, FULL), ("not", SOON, FULL, 8),
    True, True, True, "0-3 0-5!1 0-5 0-9!2 0-7",
]
LISTS = [
    shares.shares, handing.weights, handing.parcels, rates.rates, lambda book: kinds.came(book, 1),
    lambda book: dealings.dealings(book * 2, (0, 1) * len(book)),
]
# These want a book of another sort than all others, or what is handed in beside it hangs on the book.
BY_THEMSELVES = ("outlasts.handing", "outlasts.dealings", "outlasts.bands", "outlasts.truths")


class Calls(Asked):
    def test_at_their_places(self):
        for (deed, handed), wanted in zip(CALLS, ANSWERS, strict=True):
            with self.subTest(deed=deed.__name__):
                told = deed(*handed.values())
                self.assertEqual(told, wanted)
                self.assertIs(type(told), type(wanted))

    def test_by_name_in_any_order(self):
        for (deed, handed), wanted in zip(CALLS, ANSWERS, strict=True):
            for order in permutations(handed):
                with self.subTest(deed=deed.__name__, order=order):
                    self.assertEqual(deed(**{name: handed[name] for name in order}), wanted)

    def test_names_and_their_order(self):
        for deed, handed in CALLS:
            self.assertEqual(list(signature(deed).parameters), list(handed), deed.__name__)

    def test_the_same_asked_again_has_the_same_answer(self):
        for _ in range(3):
            for (deed, handed), wanted in zip(CALLS, ANSWERS, strict=True):
                self.assertEqual(deed(**handed), wanted)

    def test_nothing_handed_in_is_changed(self):
        for deed, handed in CALLS:
            before = deepcopy(handed)
            deed(**handed)
            self.assertEqual(repr(handed), repr(before), deed.__name__)

    def test_each_list_is_new_and_the_askers_own(self):
        for book in (PLAIN, CUT[:1]):
            for deed in LISTS:
                first, again = deed(book), deed(book)
                kept = list(first)
                self.assertIs(type(first), list)
                self.assertIsNot(first, again)
                first.append("mine")
                first[0] = "mine"
                self.assertEqual(again, kept)
                self.assertEqual(deed(book), kept)

    def test_the_parts_of_lists_are_tuples_of_whole_numbers_and_fractions(self):
        for deed in (shares.shares, rates.rates, lambda book: kinds.came(book, 1)):
            for row in deed(PLAIN):
                self.assertIs(type(row), tuple)
                self.assertIs(type(row[0]), int)
                self.assertIs(is_fraction(row[1]), True)


class Refusals(Asked):
    def test_no_book_of_every_function_ahead_of_all_else(self):
        for deed, handed in CALLS:
            others = list(handed.values())[1:]
            for book in bad_books():
                with self.subTest(deed=deed.__name__, book=book):
                    self.assert_refused(NoBook, deed, book, *others)
                    self.assert_refused(NoBook, deed, book, *[None for _ in others])

    def test_no_time_of_every_function_with_one(self):
        for deed, handed in CALLS:
            if "time" in handed:
                for time in bad_times():
                    with self.subTest(deed=deed.__name__, time=time):
                        self.assert_refused(NoTime, deed, *{**handed, "time": time}.values())

    def test_edges_of_times_are_taken(self):
        for deed, handed in CALLS:
            if "time" in handed:
                for time in (0, 1, 9_998, 9_999):
                    told = deed(**{**handed, "time": time})
                    parts = told if deed == truths.bounds else [told]
                    self.assertTrue(told is None or all(is_fraction(part) for part in parts))

    def test_refused_by_name_in_another_order(self):
        with self.assertRaises(NoBook):
            kinds.came_at(time=None, end=None, book=None)
        with self.assertRaises(NoTime):
            shares.share_at(time=None, book=PLAIN)


class Forty(Asked):
    def test_every_function_answers(self):
        for book in plain_forties() + late_forties():
            parts = shares.best_parts(book)
            self.assertIs(is_fraction(shares.worth(book, parts)), True)
            self.assertIs(is_book(kinds.one_kind(book)), True)
            for deed, handed in CALLS:
                if deed.__module__ not in BY_THEMSELVES and deed != shares.worth:
                    deed(**{**handed, "book": book, **({"marks": MARKS * 8} if "marks" in handed else {})})
            for word in WORDS:
                self.assertIs(is_fraction(lots.score(book, MARKS * 8, word)), True)
                self.assertIs(is_fraction(lots.spread(book, MARKS * 8, word)), True)
        self.assertEqual(bands.band(FULL * 10, HALF, (1, 1)), None)
        self.assertEqual(bands.band(FULL * 10, HALF, HALF), (3, 5, 17, 22))
        for book in plain_forties():
            self.assertEqual(len(handing.weights(book)), 40)
            self.assertIs(handing.are_parcels(book, tuple(handing.parcels(book))), True)
            for other in plain_forties():
                told = truths.may_outlast(book, other)
                shown = truths.shows_never(book, other, told[1]) or truths.shows_may(book, other, told[1:])
                self.assertIs(shown, True)
                told = truths.must_outlast(book, other)
                self.assertTrue(told == ("must",) or truths.shows_not(book, other, told[1:3]))
            for time in (0, 7, 999, 2_000):
                self.assertIs(is_fraction(truths.bounds(book, time)[0]), True)


if __name__ == "__main__":
    unittest.main()
