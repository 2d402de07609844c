"""Points [30] and [31]: what the spans of a plain book weigh in the end, and the parcels that are handed on."""

import unittest
from copy import deepcopy
from fractions import Fraction
from random import Random

from outlasts.errors import NoBook, NoPlain
from outlasts.handing import are_parcels, parcels, weights
from outlasts.shares import share_at
from things import PLAIN, Asked, bad_books, frac, odd_things, plain_forties, random_plain_book, unplain

PARCELS = [
    (0, 1, (1, 20)), (0, 2, (1, 20)), (0, 3, (1, 20)), (0, 4, (1, 20)), (2, 3, (1, 8)), (2, 4, (1, 8)), (4, 3, (3, 8)),
]
# No one is cut off ahead of another one's until.
NOTHING_HANDED = [
    ((0, 7, 1),), ((0, 7, 0),), ((0, 7, 1), (0, 3, 2), (0, 7, 4)), ((0, 7, 0), (0, 7, 0)), ((0, 3, 1), (0, 7, 0)),
    ((0, 7, 0), (0, 7, 1), (0, 7, 0)),
]


def plain_books():
    source = Random(30)
    return [random_plain_book(source) for _ in range(150)]


def plain_handing(book):
    """Weights and parcels, time by time, all givers of a time from what they weighed ahead of it."""
    weighing = [Fraction(1, len(book))] * len(book)
    handed = []
    for time in range(1, 1_000):
        ahead = list(weighing)
        takers = [at for at, span in enumerate(book) if span[1] > time]
        for giver, span in enumerate(book):
            if span[1] == time and span[2] == 0 and takers:
                weighing[giver] -= ahead[giver]
                for taker in takers:
                    weighing[taker] += ahead[giver] / len(takers)
                    handed.append((giver, taker, ahead[giver] / len(takers)))
    return weighing, handed


class Weights(Asked):
    def test_by_hand(self):
        self.assertEqual(weights(PLAIN), [(0, 1), (1, 4), (0, 1), (3, 4), (0, 1)])

    def test_all_end(self):
        self.assertEqual(weights(((0, 3, 1), (0, 9, 2), (0, 3, 4))), [(1, 3)] * 3)
        self.assertEqual(weights(((0, 3, 1),)), [(1, 1)])

    def test_none_ends(self):
        self.assertEqual(weights(((0, 3, 0), (0, 9, 0), (0, 5, 0))), [(0, 1), (1, 1), (0, 1)])
        self.assertEqual(weights(((0, 3, 0), (0, 9, 0), (0, 9, 0))), [(0, 1), (1, 2), (1, 2)])
        self.assertEqual(weights(((0, 3, 0),)), [(1, 1)])

    def test_several_cut_off_at_one_time(self):
        self.assertEqual(weights(((0, 3, 0), (0, 9, 1), (0, 3, 0), (0, 5, 1))), [(0, 1), (1, 2), (0, 1), (1, 2)])

    def test_cut_off_at_the_last_time_is_kept(self):
        self.assertEqual(weights(((0, 3, 1), (0, 9, 0))), [(1, 2), (1, 2)])
        self.assertEqual(weights(((0, 3, 0), (0, 9, 0), (0, 9, 1))), [(0, 1), (1, 2), (1, 2)])
        self.assertEqual(weights(((0, 9, 0), (0, 9, 1))), [(1, 2), (1, 2)])

    def test_ended_and_cut_off_at_the_same_time(self):
        self.assertEqual(weights(((0, 5, 1), (0, 5, 0), (0, 9, 1))), [(1, 3), (0, 1), (2, 3)])

    def test_alike_spans(self):
        self.assertEqual(weights(((0, 5, 0), (0, 5, 0), (0, 9, 1), (0, 9, 1))), [(0, 1), (0, 1), (1, 2), (1, 2)])
        self.assertEqual(weights(((0, 9, 0),) * 40), [(1, 40)] * 40)

    def test_in_the_books_order(self):
        self.assertEqual(weights(tuple(reversed(PLAIN))), list(reversed(weights(PLAIN))))

    def test_against_time_by_time(self):
        for book in plain_books() + plain_forties():
            for told, wanted in zip(weights(book), plain_handing(book)[0], strict=True):
                self.assert_fraction(told, wanted)

    def test_they_are_one_together(self):
        for book in plain_books() + plain_forties():
            self.assertEqual(sum(map(frac, weights(book))), 1)

    def test_the_share_is_what_those_weigh_that_end_later_and_what_is_kept(self):
        for book in plain_books() + plain_forties():
            told = weights(book)
            for time in (0, 1, 2, 3, 4, 5, 6, 7, 8, 9, 39, 40, 980, 999):
                later = [frac(weight) for (_, until, end), weight in zip(book, told) if end == 0 or until > time]
                self.assert_fraction(share_at(book, time), sum(later))


class Parcels(Asked):
    def test_by_hand(self):
        self.assertEqual(parcels(PLAIN), PARCELS)

    def test_order_by_until_then_giver_then_taker(self):
        book = ((0, 8, 0), (0, 3, 0), (0, 9, 1), (0, 3, 0), (0, 8, 0))
        told = parcels(book)
        self.assertEqual([(giver, taker) for giver, taker, _ in told],
                         [(1, 0), (1, 2), (1, 4), (3, 0), (3, 2), (3, 4), (0, 2), (4, 2)])
        self.assertEqual([part for _, _, part in told], [(1, 15)] * 6 + [(1, 3)] * 2)

    def test_handing_on_what_was_taken_before(self):
        book = ((0, 1, 0), (0, 2, 0), (0, 3, 0), (0, 4, 1))
        self.assertEqual(parcels(book), [(0, 1, (1, 12)), (0, 2, (1, 12)), (0, 3, (1, 12)), (1, 2, (1, 6)),
                                         (1, 3, (1, 6)), (2, 3, (1, 2))])

    def test_cut_off_at_one_time_hand_nothing_to_one_another(self):
        book = ((0, 5, 0), (0, 5, 0), (0, 5, 1), (0, 9, 0))
        self.assertEqual(parcels(book), [(0, 3, (1, 4)), (1, 3, (1, 4))])

    def test_none(self):
        for book in NOTHING_HANDED:
            self.assertEqual(parcels(book), [])

    def test_against_time_by_time(self):
        for book in plain_books() + plain_forties():
            told = parcels(book)
            wanted = plain_handing(book)[1]
            self.assertEqual([parcel[:2] for parcel in told], [parcel[:2] for parcel in wanted])
            for parcel, other in zip(told, wanted):
                self.assert_fraction(parcel[2], other[2])
                self.assertEqual([type(parcel), type(parcel[0]), type(parcel[1])], [tuple, int, int])


class AreParcels(Asked):
    def test_in_any_order(self):
        source = Random(31)
        self.assertIs(are_parcels(PLAIN, tuple(PARCELS)), True)
        self.assertIs(are_parcels(PLAIN, tuple(reversed(PARCELS))), True)
        for book in plain_books() + plain_forties():
            told = parcels(book)
            source.shuffle(told)
            self.assertIs(are_parcels(book, tuple(told)), True)

    def test_a_list_is_none(self):
        for book in plain_books()[:20] + NOTHING_HANDED:
            self.assertIs(are_parcels(book, parcels(book)), False)
        self.assertIs(are_parcels(PLAIN, tuple(list(parcel) for parcel in PARCELS)), False)
        self.assertIs(are_parcels(PLAIN, tuple((*parcel[:2], list(parcel[2])) for parcel in PARCELS)), False)

    def test_none_handed_on(self):
        for book in NOTHING_HANDED:
            self.assertIs(are_parcels(book, ()), True)
            for thing in ([], {}, "", None, False, 0, ((),), ((0, 0, (0, 1)),), ((0, 0, (1, 1)),)):
                self.assertIs(are_parcels(book, thing), False)

    def test_one_left_out_or_twice_or_more(self):
        for at in range(len(PARCELS)):
            short = PARCELS[:at] + PARCELS[at + 1:]
            for other in ([], [PARCELS[at]] * 2, [PARCELS[at - 1]]):
                self.assertIs(are_parcels(PLAIN, tuple(short + other)), False)
            self.assertIs(are_parcels(PLAIN, tuple(short + [PARCELS[at]])), True)
        for more in ((3, 0, (0, 1)), (0, 0, (0, 1)), None, ()):
            self.assertIs(are_parcels(PLAIN, (*PARCELS, more)), False)

    def test_one_otherwise(self):
        giver, taker, (top, bottom) = PARCELS[0]
        others = [
            (1, 0, (1, 20)), (0, 0, (1, 20)), (1, 1, (1, 20)), (5, 1, (1, 20)), (0, -1, (1, 20)), (0, 1, (1, 19)),
            (0, 1, (1, 21)), (0, 1, (0, 1)), (0, 1, (-1, 20)), (0, 1, (-1, -20)), (0, 1, (2, 40)), (0, 1, (1, 0)),
            (False, 1, (1, 20)), (0, True, (1, 20)), (0, 1, (True, 20)), (0, 1), (0, 1, (1, 20), 0), (0, 1, 20),
            (0, 1, (1, 20, 1)), (0, 1, (1,)), ("0", 1, (1, 20)), (None, 1, (1, 20)), (0, 1, None), (0, 1, [1, 20]),
            [0, 1, (1, 20)], (0, [1], (1, 20)), (0, 1, {1: 20}), 0, -1, "0 1 1/20",
        ]
        self.assertEqual((giver, taker, top, bottom), (0, 1, 1, 20))
        for other in others + odd_things():
            for at in (0, 3, 6):
                thing = PARCELS[1:at + 1] + [other] + PARCELS[at + 1:]
                with self.subTest(other=other, at=at):
                    self.assertEqual(len(thing), len(PARCELS))
                    self.assertIs(are_parcels(PLAIN, tuple(thing)), False)

    def test_a_truth_as_bottom(self):
        book = ((0, 3, 0), (0, 5, 1))
        self.assertEqual(parcels(book), [(0, 1, (1, 2))])
        for thing in (((0, 1, (True, 2)),), ((False, 1, (1, 2)),), ((0, True, (1, 2)),), ((False, True, (True, 2)),)):
            self.assertIs(are_parcels(book, thing), False)

    def test_other_things(self):
        for thing in odd_things() + [0, 1, -1, (0, 1, (1, 20)), {0: (0, 1, (1, 20))}, (tuple(PARCELS),)]:
            with self.subTest(thing=thing):
                self.assertIs(are_parcels(PLAIN, thing), False)

    def test_those_of_another_book(self):
        self.assertIs(are_parcels(tuple(reversed(PLAIN)), tuple(PARCELS)), False)

    def test_nothing_is_changed(self):
        for thing in odd_things() + [tuple(PARCELS), list(PARCELS), tuple(list(parcel) for parcel in PARCELS)]:
            before = repr(deepcopy(thing))
            self.assertIs(are_parcels(PLAIN, thing), are_parcels(PLAIN, thing))
            self.assertEqual(repr(thing), before)


class Refusals(Asked):
    def test_no_plain(self):
        for book in unplain():
            with self.subTest(book=book):
                self.assert_refused(NoPlain, weights, book)
                self.assert_refused(NoPlain, parcels, book)
                for thing in ((), tuple(PARCELS), [], None, True, 0, "", ((0, 1, (2, 4)),)):
                    self.assert_refused(NoPlain, are_parcels, book, thing)

    def test_no_book_ahead_of_no_plain(self):
        for book in bad_books() + [((1, 7, 1), (0, 7, 5)), ((1, 7, 1),) * 41, [(1, 7, 1)], ((True, 7, 1),)]:
            with self.subTest(book=book):
                self.assert_refused(NoBook, weights, book)
                self.assert_refused(NoBook, parcels, book)
                for thing in ((), tuple(PARCELS), [], None, True, 0, ""):
                    self.assert_refused(NoBook, are_parcels, book, thing)


if __name__ == "__main__":
    unittest.main()
