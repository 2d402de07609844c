"""Points [101] and [102]: the book as known after so many tellings, the story, names and size, ==, repr, twins."""

import unittest
from itertools import product

from outlasts.books import is_book
from outlasts.errors import NoDeed, NoName, NoNumber, NoTime
from outlasts.ledger import Ledger
from outlasts.shares import share_at
from things import Asked, bad_times, odd_things

STEPS = (
    ("begin", "b", 10), ("begin", "a", 3, 5), ("seen", "b", 14), ("ended", "a", 10, 2), ("mend", "b", 12, 1),
    ("drop", "a"), ("mend", "b", 13, 0),
)
BOOKS = [
    None, None, None, ((0, 4, 0),), ((2, 7, 2), (0, 4, 0)), ((2, 7, 2), (0, 2, 1)), ((0, 2, 1),), ((0, 3, 0),),
]


def told(*deeds):
    ledger = Ledger()
    for word, *handed in deeds:
        getattr(ledger, word)(*handed)
    return ledger


def name_of(at):
    return "abcdefgh"[at // 8] + "abcdefgh"[at % 8]


def crowd(many):
    """A ledger of many things, each begun on day 0 and then seen on day 5."""
    ledger = Ledger()
    for at in range(many):
        ledger.begin(name_of(at), 0)
    for at in range(many):
        ledger.seen(name_of(at), 5)
    return ledger


class Book(Asked):
    def test_after_every_number_of_tellings(self):
        ledger = told(*STEPS)
        self.assertEqual([ledger.book(at) for at in range(len(STEPS) + 1)], BOOKS)
        for at in range(len(STEPS) + 1):
            self.assertEqual(told(*STEPS[:at]).book(), BOOKS[at])

    def test_left_out_and_none_are_all(self):
        for at in range(len(STEPS) + 1):
            ledger = told(*STEPS[:at])
            self.assertEqual(ledger.book(), BOOKS[at])
            self.assertEqual(ledger.book(None), BOOKS[at])
            self.assertEqual(ledger.book(told=None), BOOKS[at])
            self.assertEqual(ledger.book(told=at), BOOKS[at])

    def test_it_is_a_book(self):
        ledger = told(*STEPS)
        for at in range(3, len(STEPS) + 1):
            self.assertIs(is_book(ledger.book(at)), True)

    def test_no_number(self):
        for ledger in (Ledger(), told(*STEPS)):
            many = len(ledger)
            for number in [-1, many + 1, many + 2, 999_999_999_999, "0", (0,), [0], (0, 1)] + odd_things():
                if number is not None:
                    with self.subTest(number=number):
                        self.assert_refused(NoNumber, ledger.book, number)
        self.assertIsNone(Ledger().book(0))
        self.assertIsNone(Ledger().book())

    def test_tellings_that_are_undone_are_not_counted(self):
        ledger = told(*STEPS, ("undo",), ("undo",))
        self.assertEqual([ledger.book(at) for at in range(len(STEPS) - 1)], BOOKS[:-2])
        self.assert_refused(NoNumber, ledger.book, len(STEPS) - 1)

    def test_in_the_order_of_the_names(self):
        ledger = told(("begin", "zz", 0), ("begin", "b", 0), ("begin", "ba", 0), ("begin", "aaaaaa", 0),
                      ("seen", "ba", 3), ("seen", "zz", 1), ("seen", "b", 2), ("seen", "aaaaaa", 4))
        self.assertEqual(ledger.book(), ((0, 4, 0), (0, 2, 0), (0, 3, 0), (0, 1, 0)))
        self.assertEqual(ledger.names(), ["aaaaaa", "b", "ba", "zz"])

    def test_of_more_than_forty_spans_there_is_none(self):
        ledger = crowd(41)
        self.assertEqual(ledger.book(41), None)
        self.assertEqual(ledger.book(42), ((0, 5, 0),))
        self.assertEqual(ledger.book(81), ((0, 5, 0),) * 40)
        self.assertIsNone(ledger.book(82))
        self.assertIsNone(ledger.book())
        ledger.drop("aa")
        self.assertEqual(ledger.book(), ((0, 5, 0),) * 40)
        self.assertEqual(ledger.size(), (40, 83))

    def test_things_without_spans_do_not_count(self):
        ledger = crowd(40)
        for at in range(40, 60):
            ledger.begin(name_of(at), 0)
        self.assertEqual(ledger.book(), ((0, 5, 0),) * 40)
        self.assertEqual(ledger.size(), (60, 100))


class Story(Asked):
    def test_by_hand(self):
        ledger = told(*STEPS)
        # Beyond 3 the share is 1, 1, then 0 of the one end at 2, 0 still, then 1.
        self.assertEqual(ledger.story(3), [(3, (1, 1)), (5, (0, 1)), (7, (1, 1))])
        self.assertEqual(ledger.story(0), [(3, (1, 1))])
        self.assertEqual(ledger.story(7), [(3, (1, 1)), (4, (0, 1)), (7, (1, 1))])
        self.assertEqual(ledger.story(time=7), ledger.story(7))

    def test_none_where_there_is_none(self):
        ledger = told(("begin", "a", 0), ("seen", "a", 5), ("drop", "a"), ("begin", "a", 0), ("ended", "a", 5, 1),
                      ("drop", "a"))
        self.assertEqual(ledger.story(5), [(2, (1, 1)), (3, None), (5, (0, 1)), (6, None)])
        self.assertEqual(ledger.story(4), [(2, (1, 1)), (3, None), (5, (1, 1)), (6, None)])

    def test_none_of_too_many(self):
        ledger = crowd(42)
        self.assertEqual(ledger.story(9), [(43, (1, 1)), (83, None)])
        ledger.drop("aa")
        ledger.drop("ab")
        self.assertEqual(ledger.story(9), [(43, (1, 1)), (83, None), (86, (1, 1))])

    def test_a_share_that_stays_tells_nothing(self):
        ledger = told(("begin", "a", 0), ("seen", "a", 5), ("seen", "a", 6), ("begin", "b", 0), ("seen", "b", 9))
        self.assertEqual(ledger.story(5), [(2, (1, 1))])

    def test_things_that_only_began(self):
        self.assertEqual(told(("begin", "a", 0), ("begin", "b", 5), ("drop", "a")).story(0), [])

    def test_of_an_empty_ledger(self):
        self.assertEqual(Ledger().story(0), [])
        self.assertEqual(Ledger().story(9_999), [])

    def test_what_is_undone_is_not_in_it(self):
        ledger = told(*STEPS, ("undo",))
        self.assertEqual(ledger.story(3), [(3, (1, 1)), (5, (0, 1))])

    def test_no_time(self):
        for ledger in (Ledger(), told(*STEPS)):
            for time in bad_times():
                with self.subTest(time=time):
                    self.assert_refused(NoTime, ledger.story, time)

    def test_against_the_books(self):
        ledger = told(*STEPS)
        for time in (*range(12), 999, 9_999):
            shares = [None if book is None else share_at(book, time) for book in BOOKS]
            wanted = [(at, shares[at]) for at in range(1, len(shares)) if shares[at] != shares[at - 1]]
            self.assertEqual(ledger.story(time), wanted)
            for step in ledger.story(time):
                self.assertEqual([type(step), type(step[0])], [tuple, int])


class Lists(Asked):
    def test_they_are_the_askers_own(self):
        for ledger in (told(*STEPS), Ledger()):
            for deed in (ledger.names, lambda: ledger.story(3)):
                first = deed()
                kept = list(first)
                self.assertIs(type(first), list)
                first.append("mine")
                self.assertEqual(deed(), kept)
                self.assertIsNot(deed(), deed())

    def test_what_stands_is_not_changed_by_them(self):
        ledger = told(*STEPS)
        ledger.names().clear()
        ledger.story(3).clear()
        self.assertEqual((ledger.names(), ledger.size(), ledger.book()), (["b"], (1, 7), ((0, 3, 0),)))


class Told(Asked):
    def test_size_len_and_repr(self):
        ledger = Ledger()
        self.assertEqual((ledger.size(), len(ledger), repr(ledger)), ((0, 0), 0, "Ledger(0 things, 0 tellings)"))
        for deed in STEPS[:2] + (("seen", "a", 9), ("ended", "b", 12, 1), ("mend", "a", 7, 0)):
            getattr(ledger, deed[0])(*deed[1:])
        self.assertEqual((ledger.size(), len(ledger), repr(ledger)), ((2, 5), 5, "Ledger(2 things, 5 tellings)"))
        self.assertEqual(f"{ledger}", "Ledger(2 things, 5 tellings)")
        self.assertIs(type(ledger.size()), tuple)

    def test_it_is_a_truth_where_len_is_not_nought(self):
        self.assertFalse(Ledger())
        self.assertTrue(told(("begin", "a", 0)))
        self.assertTrue(told(("begin", "a", 0), ("drop", "a")))
        self.assertFalse(told(("begin", "a", 0), ("undo",)))


class Alike(Asked):
    def assert_alike(self, one, other, wanted):
        for first, second in ((one, other), (other, one)):
            self.assertIs(first == second, wanted)
            self.assertIs(first != second, not wanted)
            self.assertIs(first in [second], wanted)
            self.assertIs(first in (0, second), wanted)

    def test_of_the_same_tellings(self):
        self.assert_alike(Ledger(), Ledger(), True)
        for at, other in product(range(len(STEPS) + 1), repeat=2):
            self.assert_alike(told(*STEPS[:at]), told(*STEPS[:other]), at == other)

    def test_a_day_of_watching_that_is_the_day_itself(self):
        same = [told(("begin", "a", 5)), told(("begin", "a", 5, None)), told(("begin", "a", 5, 5))]
        for one, other in product(same, repeat=2):
            self.assert_alike(one, other, True)
        for one in same:
            self.assert_alike(one, told(("begin", "a", 5, 6)), False)

    def test_behind_an_undo(self):
        for at in range(len(STEPS)):
            self.assert_alike(told(*STEPS[:at + 1], ("undo",)), told(*STEPS[:at]), True)
        self.assert_alike(told(("begin", "a", 5), ("undo",)), Ledger(), True)

    def test_the_same_book_by_other_deeds(self):
        ledgers = [
            told(("begin", "a", 5), ("ended", "a", 8, 1)), told(("begin", "a", 5), ("mend", "a", 8, 1)),
            told(("begin", "a", 6), ("ended", "a", 9, 1)), told(("begin", "b", 5), ("ended", "b", 8, 1)),
            told(("begin", "a", 5), ("seen", "a", 7), ("ended", "a", 8, 1)),
            told(("begin", "a", 5), ("seen", "a", 8), ("ended", "a", 8, 1)),
            told(("begin", "b", 5), ("drop", "b"), ("begin", "a", 5), ("ended", "a", 8, 1)),
        ]
        for one, other in product(enumerate(ledgers), repeat=2):
            self.assertEqual(one[1].book(), other[1].book())
            self.assert_alike(one[1], other[1], one[0] == other[0])

    def test_deeds_in_another_order(self):
        self.assert_alike(told(("begin", "a", 5), ("begin", "b", 5)), told(("begin", "b", 5), ("begin", "a", 5)), False)

    def test_seen_and_a_mend_with_nought(self):
        self.assert_alike(told(("begin", "a", 5), ("seen", "a", 8)), told(("begin", "a", 5), ("mend", "a", 8, 0)), False)

    def test_other_things(self):
        ledger = told(*STEPS)
        for thing in odd_things() + [0, 7, BOOKS[-1], list(STEPS), repr(ledger), Ledger]:
            for one in (ledger, Ledger()):
                self.assertIs(one == thing, False)
                self.assertIs(one != thing, True)
                self.assertIs(thing == one, False)
                self.assertIs(one in [thing], False)


class Twins(Asked):
    def test_it_is_another_ledger_like_it(self):
        for at in range(len(STEPS) + 1):
            ledger = told(*STEPS[:at])
            twin = ledger.twin()
            self.assertIs(type(twin), Ledger)
            self.assertIsNot(twin, ledger)
            self.assertTrue(twin == ledger)
            self.assertEqual((twin.book(), twin.names(), twin.size(), repr(twin), twin.story(3)),
                             (ledger.book(), ledger.names(), ledger.size(), repr(ledger), ledger.story(3)))

    def test_each_goes_on_by_itself(self):
        for first in (True, False):
            ledger = told(*STEPS)
            twin = ledger.twin()
            one, other = (ledger, twin) if first else (twin, ledger)
            one.begin("c", 0)
            one.ended("c", 4, 1)
            one.drop("b")
            self.assertEqual((one.names(), one.book(), len(one)), (["c"], ((0, 4, 1),), 10))
            self.assertEqual((other.names(), other.book(), len(other)), (["b"], ((0, 3, 0),), 7))
            self.assertTrue(other == told(*STEPS))
            self.assertTrue(one != other)
            self.assert_refused(NoName, other.drop, "c")
            other.begin("c", 9)
            self.assertEqual(other.names(), ["b", "c"])

    def test_it_undoes_what_the_ledger_could(self):
        for at in range(len(STEPS) + 1):
            ledger = told(*STEPS[:at])
            twin = ledger.twin()
            for left in range(at - 1, -1, -1):
                twin.undo()
                self.assertTrue(twin == told(*STEPS[:left]))
                self.assertEqual(twin.book(), BOOKS[left])
                self.assertEqual(twin.names(), told(*STEPS[:left]).names())
            self.assert_refused(NoDeed, twin.undo)
            self.assertEqual((len(ledger), ledger.book()), (at, BOOKS[at]))

    def test_undone_in_the_ledger_it_stands_in_the_twin(self):
        ledger = told(*STEPS)
        twin = ledger.twin()
        for _ in STEPS:
            ledger.undo()
        self.assertEqual((len(ledger), ledger.names()), (0, []))
        self.assertEqual((len(twin), twin.names(), twin.book()), (7, ["b"], ((0, 3, 0),)))

    def test_a_twin_of_a_twin(self):
        ledger = told(*STEPS)
        self.assertTrue(ledger.twin().twin() == ledger)


if __name__ == "__main__":
    unittest.main()
