"""Point [11]: how many are watched at a time, and the rows of a book; what is refused [4]."""

import unittest
from itertools import permutations
from random import Random

from outlasts.books import rows, watched
from outlasts.errors import NoBook, NoTime
from things import LATE, Asked, bad_books, bad_times, random_book


def plain_watched(book, time):
    many = 0
    for begin, until, _ in book:
        if time in range(begin + 1, until + 1):
            many += 1
    return many


def plain_rows(book):
    told = []
    for time in range(1000):
        ends = [0, 0, 0, 0]
        for _, until, end in book:
            if until == time and end > 0:
                ends[end - 1] += 1
        if sum(ends) > 0:
            told.append((time, plain_watched(book, time), tuple(ends)))
    return told


class Watched(unittest.TestCase):
    def test_at_and_behind_begin_and_until(self):
        for end in range(5):
            book = ((3, 7, end),)
            for time, wanted in ((0, 0), (2, 0), (3, 0), (4, 1), (6, 1), (7, 1), (8, 0), (9_999, 0)):
                with self.subTest(end=end, time=time):
                    self.assertEqual(watched(book, time), wanted)

    def test_begin_nought(self):
        self.assertEqual([watched(((0, 1, 1),), time) for time in range(3)], [0, 1, 0])

    def test_last_until(self):
        self.assertEqual([watched(((998, 999, 0),), time) for time in (998, 999, 1_000)], [0, 1, 0])

    def test_cut_off_and_ended_at_the_same_time(self):
        book = ((0, 5, 0), (0, 5, 1), (0, 5, 0), (0, 6, 4))
        self.assertEqual([watched(book, time) for time in (4, 5, 6, 7)], [4, 4, 1, 0])

    def test_late_begins(self):
        self.assertEqual([watched(LATE, time) for time in range(11)], [0, 1, 1, 2, 2, 3, 1, 2, 2, 2, 0])

    def test_alike_spans_count_each(self):
        self.assertEqual(watched(((0, 9, 0),) * 40, 9), 40)

    def test_against_plain_counting(self):
        source = Random(11)
        for _ in range(200):
            book = random_book(source)
            for time in list(range(15)) + [999, 9_999]:
                self.assertEqual(watched(book, time), plain_watched(book, time), (book, time))

    def test_is_a_whole_number(self):
        self.assertIs(type(watched(LATE, 5)), int)
        self.assertIs(type(watched(LATE, 0)), int)

    def test_by_name_in_another_order(self):
        self.assertEqual(watched(time=3, book=LATE), 2)
        self.assertEqual(watched(LATE, time=5), 3)


class Rows(unittest.TestCase):
    def test_none_end(self):
        self.assertEqual(rows(((0, 7, 0),)), [])
        self.assertEqual(rows(((0, 7, 0), (3, 9, 0), (0, 7, 0))), [])

    def test_one_of_each_kind(self):
        for end in (1, 2, 3, 4):
            wanted = tuple(1 if kind == end else 0 for kind in (1, 2, 3, 4))
            self.assertEqual(rows(((0, 7, end),)), [(7, 1, wanted)])

    def test_several_ends_at_one_time_by_several_kinds(self):
        book = ((0, 4, 1), (0, 4, 4), (0, 4, 1), (0, 4, 3), (0, 9, 2), (0, 4, 0))
        self.assertEqual(rows(book), [(4, 6, (2, 0, 1, 1)), (9, 1, (0, 1, 0, 0))])

    def test_cut_off_at_the_time_of_a_row_is_still_watched(self):
        self.assertEqual(rows(((0, 5, 0), (0, 5, 2))), [(5, 2, (0, 1, 0, 0))])
        self.assertEqual(rows(((0, 4, 0), (0, 5, 2))), [(5, 1, (0, 1, 0, 0))])

    def test_late_begins(self):
        self.assertEqual(rows(LATE), [(5, 3, (1, 0, 1, 0)), (9, 2, (0, 1, 0, 0))])

    def test_begin_at_the_time_of_a_row_is_not_yet_watched(self):
        self.assertEqual(rows(((0, 5, 1), (5, 6, 1))), [(5, 1, (1, 0, 0, 0)), (6, 1, (1, 0, 0, 0))])

    def test_rising_whatever_the_order(self):
        spans = ((0, 100, 1), (3, 20, 2), (0, 9, 3), (9, 20, 0), (0, 999, 4))
        wanted = [(9, 4, (0, 0, 1, 0)), (20, 4, (0, 1, 0, 0)), (100, 2, (1, 0, 0, 0)), (999, 1, (0, 0, 0, 1))]
        for book in permutations(spans):
            self.assertEqual(rows(book), wanted)

    def test_against_plain_counting(self):
        source = Random(10)
        for _ in range(200):
            book = random_book(source)
            self.assertEqual(rows(book), plain_rows(book), book)

    def test_forty_ends_at_forty_times(self):
        book = tuple((0, 999 - at, 1 + at % 4) for at in range(40))
        told = rows(book)
        self.assertEqual(told, plain_rows(book))
        self.assertEqual([row[0] for row in told], list(range(960, 1_000)))
        self.assertEqual([row[1] for row in told], list(range(40, 0, -1)))

    def test_kinds_of_values(self):
        told = rows(LATE)
        self.assertIs(type(told), list)
        for row in told:
            self.assertIs(type(row), tuple)
            self.assertIs(type(row[2]), tuple)
            for number in (row[0], row[1], *row[2]):
                self.assertIs(type(number), int)
        self.assertIs(type(rows(((0, 7, 0),))), list)

    def test_the_list_is_new_and_the_askers_own(self):
        for book in (LATE, ((0, 7, 0),)):
            told = rows(book)
            kept = list(told)
            told.append("mine")
            self.assertIsNot(rows(book), rows(book))
            self.assertEqual(rows(book), kept)

    def test_by_name(self):
        self.assertEqual(rows(book=LATE), rows(LATE))


class Refusals(Asked):
    def test_no_book(self):
        for book in bad_books():
            with self.subTest(book=book):
                self.assert_refused(NoBook, rows, book)
                self.assert_refused(NoBook, watched, book, 3)

    def test_no_time(self):
        for time in bad_times():
            with self.subTest(time=time):
                self.assert_refused(NoTime, watched, LATE, time)

    def test_no_book_ahead_of_no_time(self):
        for book in bad_books():
            for time in (-1, 10_000, True, None, "3"):
                with self.subTest(book=book, time=time):
                    self.assert_refused(NoBook, watched, book, time)

    def test_no_book_ahead_of_no_time_by_name(self):
        with self.assertRaises(NoBook):
            watched(time=None, book=None)
        with self.assertRaises(NoTime):
            watched(time=None, book=LATE)

    def test_edges_of_times_are_taken(self):
        for time in (0, 1, 9_998, 9_999):
            self.assertEqual(watched(LATE, time), plain_watched(LATE, time))

    def test_the_same_asked_again_has_the_same_answer(self):
        for _ in range(3):
            self.assertEqual(watched(LATE, 5), 3)
            self.assertEqual(rows(LATE), plain_rows(LATE))
            self.assert_refused(NoTime, watched, LATE, -1)


if __name__ == "__main__":
    unittest.main()
