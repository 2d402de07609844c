"""Point [10]: spans and books, told of anything."""

import unittest
from copy import deepcopy

from outlasts.books import is_book, is_span
from things import deep, odd_things

GOOD_SPANS = [
    (0, 1, 0), (0, 1, 1), (0, 7, 0), (3, 12, 1), (3, 12, 2), (3, 12, 3), (3, 12, 4), (0, 999, 0), (0, 999, 4),
    (998, 999, 0), (998, 999, 4), (11, 12, 2),
]
BAD_SPANS = [
    (0, 0, 0), (0, 0, 1), (7, 7, 0), (7, 7, 1), (8, 7, 1), (9, 7, 0), (999, 999, 1), (-1, 7, 0), (-1, 7, 1),
    (-3, -1, 1), (-1, 0, 0), (0, -1, 0), (0, 1000, 0), (0, 1000, 1), (999, 1000, 0), (0, 2000, 1), (1000, 1001, 1),
    (0, 7, 5), (0, 7, -1), (0, 7, -4), (0, 7, 6), (0, 7, 999_999_999_999), (0, 999_999_999_999, 1),
    (999_999_999_999, 999_999_999_999, 1), (-999_999_999_999, 7, 1),
    (True, 7, 1), (False, 7, 1), (0, True, 1), (0, False, 1), (0, 7, True), (0, 7, False), (False, True, True),
    (None, 7, 1), (0, None, 1), (0, 7, None), ("0", 7, 1), (0, "7", 1), (0, 7, "1"), ((0,), 7, 1), (0, [7], 1),
    (0, 7, {}), (0,), (0, 7), (0, 7, 1, 1), (0, 7, 1, None), ((0, 7, 1),), ((0, 7, 1), (0, 7, 1), (0, 7, 1)),
    0, 7, -1, 999_999_999_999,
]


class Spans(unittest.TestCase):
    def test_spans(self):
        for thing in GOOD_SPANS:
            with self.subTest(thing=thing):
                self.assertIs(is_span(thing), True)

    def test_no_spans(self):
        for thing in BAD_SPANS + odd_things():
            with self.subTest(thing=thing):
                self.assertIs(is_span(thing), False)

    def test_every_small_one(self):
        for begin in range(-2, 5):
            for until in range(-2, 5):
                for end in range(-2, 8):
                    wanted = begin >= 0 and until > begin and end in (0, 1, 2, 3, 4)
                    self.assertIs(is_span((begin, until, end)), wanted, (begin, until, end))

    def test_lists_are_no_spans(self):
        for thing in GOOD_SPANS:
            self.assertIs(is_span(list(thing)), False)

    def test_a_book_is_no_span(self):
        self.assertIs(is_span(((0, 7, 1),) * 3), False)

    def test_by_name(self):
        self.assertIs(is_span(thing=(0, 7, 1)), True)
        self.assertIs(is_span(thing=[0, 7, 1]), False)


class Books(unittest.TestCase):
    def test_of_each_good_span(self):
        for span in GOOD_SPANS:
            self.assertIs(is_book((span,)), True, span)
        self.assertIs(is_book(tuple(GOOD_SPANS)), True)
        self.assertIs(is_book(tuple(reversed(GOOD_SPANS))), True)

    def test_of_each_bad_span(self):
        for span in BAD_SPANS + odd_things():
            with self.subTest(span=span):
                self.assertIs(is_book((span,)), False)

    def test_how_many_spans(self):
        for many in range(1, 41):
            self.assertIs(is_book(((0, 7, 1),) * many), True, many)
        for many in (0, 41, 42, 80, 400):
            self.assertIs(is_book(((0, 7, 1),) * many), False, many)

    def test_forty_different_spans(self):
        spans = tuple((at, at + 1 + at % 3, at % 5) for at in range(41))
        self.assertIs(is_book(spans[:40]), True)
        self.assertIs(is_book(spans), False)

    def test_alike_spans_are_let(self):
        self.assertIs(is_book(((0, 7, 1), (0, 7, 1), (0, 7, 0), (0, 7, 0))), True)

    def test_one_bad_span_amid_good_ones(self):
        for bad in BAD_SPANS + odd_things():
            for at in (0, 1, 4, 8):
                spans = [(0, 7, 1)] * 8
                spans.insert(at, bad)
                with self.subTest(bad=bad, at=at):
                    self.assertIs(is_book(tuple(spans)), False)

    def test_lists_outside_and_within(self):
        self.assertIs(is_book([(0, 7, 1)]), False)
        self.assertIs(is_book(([0, 7, 1],)), False)
        self.assertIs(is_book([[0, 7, 1]]), False)
        self.assertIs(is_book({(0, 7, 1): True}), False)

    def test_odd_things_are_no_books(self):
        for thing in odd_things():
            with self.subTest(thing=thing):
                self.assertIs(is_book(thing), False)

    def test_a_span_is_no_book_and_a_book_is_just_so_deep(self):
        self.assertIs(is_book(deep(0)), False)
        self.assertIs(is_book(deep(1)), True)
        for levels in range(2, 8):
            self.assertIs(is_book(deep(levels)), False)

    def test_by_name(self):
        self.assertIs(is_book(thing=((0, 7, 1),)), True)
        self.assertIs(is_book(thing=()), False)


class Asking(unittest.TestCase):
    def test_changes_nothing_and_answers_the_same_again(self):
        things = GOOD_SPANS + BAD_SPANS + odd_things() + [tuple(GOOD_SPANS)]
        before = deepcopy(things)
        first = [(is_span(thing), is_book(thing)) for thing in things]
        again = [(is_span(thing), is_book(thing)) for thing in things]
        self.assertEqual(first, again)
        self.assertEqual(repr(things), repr(before))


if __name__ == "__main__":
    unittest.main()
