"""Point [90]: truths of a plain book, the bounds of the share over all of them, the soonest and the latest one."""

import unittest
from fractions import Fraction
from itertools import product
from random import Random

from outlasts.errors import NoBook, NoPlain, NoTime
from outlasts.truths import bounds, is_truth, latest, soonest
from things import CUT, PLAIN, Asked, bad_books, bad_times, frac, odd_things, plain_forties, random_plain_book, unplain

# PLAIN = ((0, 3, 0), (0, 5, 1), (0, 5, 0), (0, 9, 2), (0, 7, 0))
SOONEST = ((0, 4, 1), (0, 5, 1), (0, 6, 1), (0, 9, 2), (0, 8, 1))
LATEST = ((0, 2_000, 1), (0, 5, 1), (0, 2_000, 1), (0, 9, 2), (0, 2_000, 1))
ALL_CUT = ((0, 3, 0), (0, 999, 0), (0, 3, 0))
ALL_END = ((0, 3, 1), (0, 999, 4), (0, 3, 2))


def plain_books():
    source = Random(90)
    return [random_plain_book(source) for _ in range(120)] + plain_forties() + [ALL_CUT, ALL_END]


def plain_share(truth, time):
    return Fraction(sum(until > time for _, until, _ in truth), len(truth))


def drawn_truth(source, book):
    return tuple((0, source.randint(until + 1, 2_000), source.randint(1, 4)) if end == 0 else (begin, until, end)
                 for begin, until, end in book)


class IsTruth(Asked):
    def assert_none(self, *things):
        for thing in things:
            with self.subTest(thing=thing):
                self.assertIs(is_truth(PLAIN, thing), False)

    def put(self, at, span, truth=SOONEST):
        return truth[:at] + (span,) + truth[at + 1:]

    def test_the_soonest_and_the_latest(self):
        self.assertIs(is_truth(PLAIN, SOONEST), True)
        self.assertIs(is_truth(PLAIN, LATEST), True)
        for book in plain_books():
            self.assertIs(is_truth(book, soonest(book)), True)
            self.assertIs(is_truth(book, latest(book)), True)

    def test_any_until_from_one_later_to_two_thousand(self):
        for until, wanted in ((-1, False), (0, False), (2, False), (3, False), (4, True), (5, True), (999, True),
                              (1_000, True), (1_999, True), (2_000, True), (2_001, False), (9_999, False),
                              (999_999_999_999, False)):
            self.assertIs(is_truth(PLAIN, self.put(0, (0, until, 1))), wanted, until)

    def test_cut_off_at_the_last_until(self):
        book = ((0, 999, 0),)
        for until, wanted in ((998, False), (999, False), (1_000, True), (2_000, True), (2_001, False)):
            self.assertIs(is_truth(book, ((0, until, 1),)), wanted)

    def test_any_kind_of_end(self):
        for end, wanted in ((-1, False), (0, False), (1, True), (2, True), (3, True), (4, True), (5, False)):
            self.assertIs(is_truth(PLAIN, self.put(0, (0, 4, end))), wanted)
            self.assertIs(is_truth(PLAIN, self.put(2, (0, 1_500, end))), wanted)

    def test_an_ended_one_is_the_same(self):
        self.assert_none(*[self.put(1, span) for span in ((0, 6, 1), (0, 4, 1), (0, 5, 2), (0, 5, 0), (1, 5, 1))])
        self.assert_none(*[self.put(3, span) for span in ((0, 10, 2), (0, 9, 1), (0, 9, 0), (0, 2_000, 2))])

    def test_a_begin_other_than_nought(self):
        self.assert_none(*[self.put(at, (begin, 9, 2)) for at in (0, 2, 3, 4) for begin in (1, -1, 8)])

    def test_cut_off_ones_as_they_were(self):
        self.assert_none(PLAIN, self.put(0, PLAIN[0]), self.put(4, PLAIN[4]))
        self.assertIs(is_truth(ALL_END, ALL_END), True)

    def test_in_the_books_order(self):
        self.assert_none(tuple(reversed(SOONEST)), tuple(sorted(LATEST, key=lambda span: span[1])))

    def test_truths_in_the_place_of_numbers(self):
        self.assert_none(
            self.put(1, (False, 5, 1)), self.put(1, (0, 5, True)), self.put(0, (False, 4, 1)), self.put(0, (0, 4, True)),
            self.put(0, (0, True, 1)),
        )
        book = ((0, 1, 1),)
        for span in ((0, True, 1), (False, 1, 1), (0, 1, True), (False, True, True)):
            self.assertIs(is_truth(book, (span,)), False)

    def test_lists(self):
        self.assert_none(list(SOONEST), [list(span) for span in SOONEST], tuple(list(span) for span in SOONEST),
                         self.put(1, [0, 5, 1]), self.put(0, [0, 4, 1]))

    def test_too_few_and_too_many(self):
        self.assert_none((), SOONEST[:-1], SOONEST[1:], SOONEST + SOONEST[-1:], SOONEST * 2, (SOONEST,))
        self.assert_none(self.put(0, (0, 4)), self.put(0, (0, 4, 1, 1)), self.put(1, (0, 5)), self.put(1, (0, 5, 1, 1)))

    def test_other_things(self):
        self.assert_none(0, 1, "0-4!1 0-5!1", dict(enumerate(SOONEST)), *odd_things())
        for thing in odd_things():
            self.assert_none(self.put(0, thing), self.put(3, thing), self.put(0, (thing, 4, 1)),
                             self.put(0, (0, thing, 1)), self.put(0, (0, 4, thing)), self.put(1, (0, 5, thing)))

    def test_any_that_is_drawn(self):
        source = Random(91)
        for book in plain_books():
            self.assertIs(is_truth(book, drawn_truth(source, book)), True)


class SoonestAndLatest(Asked):
    def test_by_hand(self):
        self.assertEqual(soonest(PLAIN), SOONEST)
        self.assertEqual(latest(PLAIN), LATEST)

    def test_all_cut_off_and_none(self):
        self.assertEqual(soonest(ALL_CUT), ((0, 4, 1), (0, 1_000, 1), (0, 4, 1)))
        self.assertEqual(latest(ALL_CUT), ((0, 2_000, 1),) * 3)
        self.assertEqual(soonest(ALL_END), ALL_END)
        self.assertEqual(latest(ALL_END), ALL_END)

    def test_span_by_span(self):
        for book in plain_books():
            for span, soon, late in zip(book, soonest(book), latest(book), strict=True):
                self.assertEqual(soon, span if span[2] else (0, span[1] + 1, 1))
                self.assertEqual(late, span if span[2] else (0, 2_000, 1))

    def test_they_are_tuples(self):
        for deed in (soonest, latest):
            told = deed(PLAIN)
            self.assertEqual([type(told)] + [type(span) for span in told], [tuple] * 6)


class Bounds(Asked):
    def test_by_hand(self):
        for time, wanted in (
            (0, ((1, 1), (1, 1))), (2, ((1, 1), (1, 1))), (3, ((1, 1), (1, 1))), (4, ((4, 5), (1, 1))),
            (5, ((3, 5), (4, 5))), (6, ((2, 5), (4, 5))), (7, ((2, 5), (4, 5))), (8, ((1, 5), (4, 5))),
            (9, ((0, 1), (3, 5))), (10, ((0, 1), (3, 5))), (1_999, ((0, 1), (3, 5))), (2_000, ((0, 1), (0, 1))),
            (2_001, ((0, 1), (0, 1))), (9_999, ((0, 1), (0, 1))),
        ):
            with self.subTest(time=time):
                self.assertEqual(bounds(PLAIN, time), wanted)

    def test_all_cut_off(self):
        for time, least, greatest in ((0, 1, 1), (3, 1, 1), (4, "1/3", 1), (998, "1/3", 1), (999, "1/3", 1),
                                      (1_000, 0, 1), (1_999, 0, 1), (2_000, 0, 0), (9_999, 0, 0)):
            told = bounds(ALL_CUT, time)
            self.assert_fraction(told[0], least)
            self.assert_fraction(told[1], greatest)

    def test_none_cut_off(self):
        for time, wanted in ((0, (1, 1)), (2, (1, 1)), (3, (1, 3)), (998, (1, 3)), (999, (0, 1)), (2_000, (0, 1))):
            self.assertEqual(bounds(ALL_END, time), (wanted, wanted))

    def test_over_all_truths_of_small_books(self):
        for book in (((0, 3, 0), (0, 5, 1)), ((0, 2, 0), (0, 2, 0)), ((0, 4, 2), (0, 3, 0))):
            choices = [[until for until in range(span[1] + 1, 2_001) if until < 8 or until > 1_997]
                       if span[2] == 0 else [span[1]] for span in book]
            for time in (*range(9), 1_996, 1_997, 1_998, 1_999, 2_000):
                all_shares = [Fraction(sum(until > time for until in untils), len(book)) for untils in product(*choices)]
                told = bounds(book, time)
                self.assertEqual((frac(told[0]), frac(told[1])), (min(all_shares), max(all_shares)))

    def test_no_drawn_truth_is_beyond_them(self):
        source = Random(92)
        for book in plain_books():
            for _ in range(3):
                truth, time = drawn_truth(source, book), source.choice((0, 3, 5, 8, 39, 700, 1_500, 1_999, 2_000))
                least, greatest = bounds(book, time)
                self.assertTrue(frac(least) <= plain_share(truth, time) <= frac(greatest))

    def test_against_plain_counting(self):
        for book in plain_books():
            for time in (*range(0, 12), 40, 41, 960, 998, 999, 1_000, 1_999, 2_000, 9_999):
                told = bounds(book, time)
                self.assertIs(type(told), tuple)
                self.assert_fraction(told[0], plain_share(soonest(book), time))
                self.assert_fraction(told[1], plain_share(latest(book), time))


class Refusals(Asked):
    def test_no_plain(self):
        for book in unplain():
            self.assert_refused(NoPlain, soonest, book)
            self.assert_refused(NoPlain, latest, book)
            for time in (3, -1, None):
                self.assert_refused(NoPlain, bounds, book, time)
            for thing in (book, (), None, SOONEST, [1], True):
                self.assert_refused(NoPlain, is_truth, book, thing)
        self.assert_refused(NoPlain, soonest, CUT)

    def test_no_book_ahead_of_no_plain(self):
        for book in bad_books() + [((1, 7, 0), (0, 7, 5)), [(1, 7, 1)], SOONEST + ((1, 2_000, 1),), LATEST]:
            self.assert_refused(NoBook, soonest, book)
            self.assert_refused(NoBook, latest, book)
            for time in (3, -1, None):
                self.assert_refused(NoBook, bounds, book, time)
            for thing in (book, (), None, True):
                self.assert_refused(NoBook, is_truth, book, thing)

    def test_no_time(self):
        for time in bad_times():
            self.assert_refused(NoTime, bounds, PLAIN, time)


if __name__ == "__main__":
    unittest.main()
