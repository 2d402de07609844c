"""Points [5] and [91]: whether one plain book may, and must, outlast another one, and what shows it."""

import unittest
from copy import deepcopy
from fractions import Fraction
from random import Random

from outlasts.errors import NoBook, NoPlain
from outlasts.truths import (
    bounds, is_truth, latest, may_outlast, must_outlast, shows_may, shows_never, shows_not, soonest,
)
from things import PLAIN, Asked, bad_books, frac, odd_things, plain_forties, unplain

SHORT = ((0, 2, 1), (0, 4, 2))
LONG = ((0, 3, 1), (0, 9, 2))
# Cut off ahead of the untils of SHORT and LONG, or in the midst of them.
OPEN = ((0, 1, 0), (0, 3, 1))
# The untils that matter for small books, beside those near 2,000.
NEAR = (*range(0, 14), 998, 999, 1_000, 1_998, 1_999, 2_000, 2_001)
QUESTIONS = (may_outlast, must_outlast)
SHOWS = (shows_may, shows_never, shows_not)


def plain_share(truth, time):
    return Fraction(sum(until > time for _, until, _ in truth), len(truth))


def plain_times_below(one, other):
    """All times at which the first truth's share is less."""
    return [time for time in range(0, 2_002) if plain_share(one, time) < plain_share(other, time)]


def small_pairs():
    source = Random(91)
    def drawn():
        return tuple((0, source.randint(1, 9), source.choice((0, 1, 1, 2))) for _ in range(source.randint(1, 4)))
    return [(drawn(), drawn()) for _ in range(60)]


def drawn_truth(source, book):
    return tuple((0, source.choice((until + 1, until + 3, 1_999, 2_000)), source.randint(1, 4))
                 if end == 0 else (begin, until, end) for begin, until, end in book)


class MayOutlast(Asked):
    def test_by_hand_both_ways_about(self):
        self.assertEqual(may_outlast(LONG, SHORT), ("may", LONG, SHORT))
        # Beyond 2 SHORT has one half, LONG all.
        self.assertEqual(may_outlast(SHORT, LONG), ("never", 2))

    def test_by_hand_with_cut_off_ones(self):
        self.assertEqual(may_outlast(OPEN, SHORT), ("may", ((0, 2_000, 1), (0, 3, 1)), SHORT))
        self.assertEqual(may_outlast(OPEN, LONG), ("may", ((0, 2_000, 1), (0, 3, 1)), LONG))
        self.assertEqual(may_outlast(SHORT, OPEN), ("may", SHORT, ((0, 2, 1), (0, 3, 1))))
        self.assertEqual(may_outlast(SHORT, ((0, 2, 0), (0, 3, 1))), ("never", 2))

    def test_it_is_the_least_time_and_not_the_first_one_of_a_crossing(self):
        one = ((0, 5, 1), (0, 9, 1), (0, 9, 1))
        other = ((0, 3, 1), (0, 8, 1), (0, 12, 1))
        # Beyond 3, 5 and 8 the first has 1, 2/3, 2/3 and the other 2/3, 2/3, 1/3; beyond 9 none and 1/3.
        self.assertEqual(may_outlast(one, other), ("never", 9))
        self.assertEqual(may_outlast(other, one), ("never", 3))

    def test_a_book_with_itself(self):
        for book in (PLAIN, SHORT, OPEN, ((0, 7, 0),), ((0, 7, 1),), *plain_forties()):
            self.assertEqual(may_outlast(book, book), ("may", latest(book), soonest(book)))

    def test_ends_in_the_place_of_cuts(self):
        cut = ((0, 4, 0), (0, 6, 0))
        end = ((0, 4, 1), (0, 6, 1))
        self.assertEqual(may_outlast(cut, end), ("may", ((0, 2_000, 1),) * 2, end))
        # Each one that was cut off ends one later at least.
        self.assertEqual(may_outlast(end, cut), ("never", 4))

    def test_books_of_other_sizes(self):
        self.assertEqual(may_outlast(((0, 5, 1),), ((0, 5, 1), (0, 4, 2), (0, 5, 3))),
                         ("may", ((0, 5, 1),), ((0, 5, 1), (0, 4, 2), (0, 5, 3))))
        self.assertEqual(may_outlast(((0, 5, 1), (0, 4, 2), (0, 5, 3)), ((0, 5, 1),)), ("never", 4))

    def test_against_all_times(self):
        for one, other in small_pairs():
            below = plain_times_below(latest(one), soonest(other))
            wanted = ("never", below[0]) if below else ("may", latest(one), soonest(other))
            self.assertEqual(may_outlast(one, other), wanted)
            self.assertIs(type(may_outlast(one, other)), tuple)

    def test_the_time_is_the_least_by_the_bounds(self):
        for one, other in small_pairs():
            told = may_outlast(one, other)
            times = [time for time in NEAR if time < 2_001
                     and frac(bounds(one, time)[1]) < frac(bounds(other, time)[0])]
            self.assertEqual(times[:1], list(told[1:]) if told[0] == "never" else [])


class MustOutlast(Asked):
    def test_by_hand_both_ways_about(self):
        self.assertEqual(must_outlast(LONG, SHORT), ("must",))
        self.assertEqual(must_outlast(SHORT, LONG), ("not", SHORT, LONG, 2))

    def test_by_hand_with_cut_off_ones(self):
        self.assertEqual(must_outlast(OPEN, SHORT), ("not", ((0, 2, 1), (0, 3, 1)), SHORT, 3))
        self.assertEqual(must_outlast(((0, 1, 0), (0, 4, 2)), SHORT), ("must",))
        self.assertEqual(must_outlast(LONG, OPEN), ("not", LONG, ((0, 2_000, 1), (0, 3, 1)), 9))
        self.assertEqual(must_outlast(SHORT, OPEN), ("not", SHORT, ((0, 2_000, 1), (0, 3, 1)), 2))

    def test_a_book_with_itself(self):
        for book in (SHORT, LONG, ((0, 7, 1),) * 40):
            self.assertEqual(must_outlast(book, book), ("must",))
        self.assertEqual(must_outlast(((0, 7, 0),), ((0, 7, 0),)), ("not", ((0, 8, 1),), ((0, 2_000, 1),), 8))
        self.assertEqual(must_outlast(((0, 999, 0),), ((0, 999, 0),)),
                         ("not", ((0, 1_000, 1),), ((0, 2_000, 1),), 1_000))

    def test_ends_in_the_place_of_cuts(self):
        cut = ((0, 4, 0), (0, 6, 0))
        end = ((0, 4, 1), (0, 6, 1))
        self.assertEqual(must_outlast(cut, end), ("must",))
        self.assertEqual(must_outlast(end, cut), ("not", end, ((0, 2_000, 1),) * 2, 4))

    def test_against_all_times(self):
        for one, other in small_pairs():
            below = plain_times_below(soonest(one), latest(other))
            wanted = ("not", soonest(one), latest(other), below[0]) if below else ("must",)
            self.assertEqual(must_outlast(one, other), wanted)
            self.assertIs(type(must_outlast(one, other)), tuple)

    def test_what_must_may(self):
        for one, other in small_pairs():
            if must_outlast(one, other)[0] == "must":
                self.assertEqual(may_outlast(one, other)[0], "may")
        for one in plain_forties():
            for other in plain_forties():
                if must_outlast(one, other)[0] == "must":
                    self.assertEqual(may_outlast(one, other)[0], "may")


class WhatIsToldShowsIt(Asked):
    def test_just_one_is_so(self):
        for one, other in small_pairs() + [(PLAIN, SHORT), (SHORT, PLAIN)]:
            told = may_outlast(one, other)
            if told[0] == "may":
                self.assertIs(shows_may(one, other, told[1:]), True)
                self.assertEqual([time for time in NEAR if shows_never(one, other, time)], [])
            else:
                self.assertIs(shows_never(one, other, told[1]), True)
                source = Random(5)
                for _ in range(5):
                    truths = (drawn_truth(source, one), drawn_truth(source, other))
                    self.assertIs(shows_may(one, other, truths), False)
                self.assertIs(shows_may(one, other, (latest(one), soonest(other))), False)

    def test_not(self):
        for one, other in small_pairs():
            told = must_outlast(one, other)
            if told[0] == "not":
                self.assertIs(shows_not(one, other, told[1:3]), True)
            else:
                self.assertIs(shows_not(one, other, (soonest(one), latest(other))), False)

    def test_whole_answers_show_nothing(self):
        for one, other in small_pairs():
            for told in (may_outlast(one, other), must_outlast(one, other)):
                for deed in SHOWS:
                    self.assertIs(deed(one, other, told), False)

    def test_nor_is_one_shown_by_what_shows_another(self):
        may, never = may_outlast(LONG, SHORT)[1:], may_outlast(SHORT, LONG)[1]
        self.assertIs(shows_never(LONG, SHORT, may), False)
        self.assertIs(shows_not(LONG, SHORT, may), False)
        self.assertIs(shows_may(SHORT, LONG, never), False)
        self.assertIs(shows_not(SHORT, LONG, never), False)
        self.assertIs(shows_never(SHORT, LONG, (SHORT, LONG)), False)
        self.assertIs(shows_may(SHORT, LONG, (SHORT, LONG)), False)
        self.assertIs(shows_not(SHORT, LONG, (SHORT, LONG)), True)


class Shows(Asked):
    def test_any_truths(self):
        source = Random(92)
        for one, other in small_pairs():
            for _ in range(4):
                truths = (drawn_truth(source, one), drawn_truth(source, other))
                outlasts = plain_times_below(*truths) == []
                self.assertIs(shows_may(one, other, truths), outlasts)
                self.assertIs(shows_not(one, other, truths), not outlasts)

    def test_truths_between_the_soonest_and_the_latest(self):
        one, other = ((0, 4, 0),), ((0, 6, 0),)
        self.assertIs(shows_may(one, other, (((0, 9, 3),), ((0, 9, 1),))), True)
        self.assertIs(shows_may(one, other, (((0, 9, 3),), ((0, 10, 1),))), False)
        self.assertIs(shows_not(one, other, (((0, 9, 3),), ((0, 9, 1),))), False)
        self.assertIs(shows_not(one, other, (((0, 9, 3),), ((0, 10, 1),))), True)

    def test_just_equal_ones_outlast_each_other(self):
        for book in (SHORT, LONG):
            self.assertIs(shows_may(book, tuple(reversed(book)), (book, tuple(reversed(book)))), True)
            self.assertIs(shows_not(book, tuple(reversed(book)), (book, tuple(reversed(book)))), False)

    def test_the_truths_of_each_at_its_place(self):
        self.assertIs(shows_may(LONG, SHORT, (LONG, SHORT)), True)
        self.assertIs(shows_may(LONG, SHORT, (SHORT, LONG)), False)
        self.assertIs(shows_may(LONG, SHORT, (LONG, LONG)), False)
        self.assertIs(shows_may(LONG, SHORT, (SHORT, SHORT)), False)
        self.assertIs(shows_not(SHORT, LONG, (LONG, SHORT)), False)
        self.assertIs(shows_not(SHORT, LONG, (SHORT, SHORT)), False)
        self.assertIs(shows_not(SHORT, LONG, (LONG, LONG)), False)

    def test_any_such_time(self):
        # Beyond 2 one half and all, beyond 3 one half each, beyond 4 to 8 none and one half.
        wanted = {2, 4, 5, 6, 7, 8}
        for time in NEAR + (9_998, 9_999, 10_000, -1):
            self.assertIs(shows_never(SHORT, LONG, time), time in wanted, time)
        for time in NEAR:
            self.assertIs(shows_never(LONG, SHORT, time), False)

    def test_times_near_two_thousand(self):
        one, other = ((0, 5, 1),), ((0, 999, 0),)
        for time, wanted in ((4, False), (5, True), (6, True), (998, True), (999, True), (1_000, False),
                             (1_999, False), (2_000, False), (9_999, False)):
            self.assertIs(shows_never(one, other, time), wanted, time)

    def test_never_by_all_times(self):
        for one, other in small_pairs():
            below = set(plain_times_below(latest(one), soonest(other)))
            for time in NEAR:
                self.assertIs(shows_never(one, other, time), time in below)

    def test_truths_and_lists_in_the_place_of_times(self):
        one, other = ((0, 1, 1),), ((0, 2, 1),)
        self.assertIs(shows_never(one, other, 1), True)
        for thing in (True, [1], (1,), "1", {1: 1}, None, (1, 1)):
            self.assertIs(shows_never(one, other, thing), False)

    def test_lists_and_other_lengths(self):
        for things in ([LONG, SHORT], (list(LONG), SHORT), (LONG, list(SHORT)), (LONG,), (LONG, SHORT, 4),
                       (LONG, SHORT, SHORT), ("may", LONG, SHORT), (), {0: LONG, 1: SHORT}, ((LONG, SHORT),)):
            self.assertIs(shows_may(LONG, SHORT, things), False)
        for things in ([SHORT, LONG], (list(SHORT), LONG), (SHORT, list(LONG)), (SHORT,), (SHORT, LONG, 2),
                       ("not", SHORT, LONG), (), {0: SHORT, 1: LONG}):
            self.assertIs(shows_not(SHORT, LONG, things), False)

    def test_truths_in_the_place_of_numbers(self):
        one, other = ((0, 5, 1),), ((0, 5, 1),)
        for bad in (((0, 5, True),), ((False, 5, 1),)):
            self.assertIs(shows_may(one, other, (bad, other)), False)
            self.assertIs(shows_may(one, other, (one, bad)), False)
            self.assertIs(shows_not(((0, 4, 1),), other, (((0, 4, 1),), bad)), False)

    def test_other_things(self):
        for thing in odd_things() + [-1, 10_000, 999_999_999_999]:
            before = repr(deepcopy(thing))
            for deed in SHOWS:
                self.assertIs(deed(SHORT, LONG, thing), False)
                self.assertIs(deed(LONG, SHORT, thing), False)
                self.assertIs(deed(SHORT, LONG, (SHORT, thing)), False)
                self.assertIs(deed(SHORT, LONG, (thing, LONG)), False)
            self.assertEqual(repr(thing), before)

    def test_what_is_told_are_truths(self):
        for one, other in small_pairs():
            for told in (may_outlast(one, other), must_outlast(one, other)):
                if len(told) > 2:
                    self.assertIs(is_truth(one, told[1]), True)
                    self.assertIs(is_truth(other, told[2]), True)


class Refusals(Asked):
    def test_the_first_one_first(self):
        for bad in unplain():
            for deed in QUESTIONS:
                self.assert_refused(NoPlain, deed, bad, SHORT)
                self.assert_refused(NoPlain, deed, bad, None)
                self.assert_refused(NoPlain, deed, SHORT, bad)
                self.assert_refused(NoBook, deed, [], bad)
            for deed in SHOWS:
                for thing in (None, 2, (SHORT, LONG), [], True):
                    self.assert_refused(NoPlain, deed, bad, SHORT, thing)
                    self.assert_refused(NoPlain, deed, bad, None, thing)
                    self.assert_refused(NoPlain, deed, SHORT, bad, thing)
                    self.assert_refused(NoBook, deed, [], bad, thing)

    def test_no_book_of_either(self):
        for bad in bad_books() + [soonest(((0, 999, 0),)), latest(OPEN)]:
            for deed in QUESTIONS:
                self.assert_refused(NoBook, deed, bad, SHORT)
                self.assert_refused(NoBook, deed, SHORT, bad)
                self.assert_refused(NoBook, deed, bad, ((1, 7, 1),))
                self.assert_refused(NoPlain, deed, ((1, 7, 1),), bad)
            for deed in SHOWS:
                for thing in (None, 2, (SHORT, LONG)):
                    self.assert_refused(NoBook, deed, bad, SHORT, thing)
                    self.assert_refused(NoBook, deed, SHORT, bad, thing)
                    self.assert_refused(NoPlain, deed, ((1, 7, 1),), bad, thing)


if __name__ == "__main__":
    unittest.main()
