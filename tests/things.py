"""What several tests share: things of anything, books, and how a refusal is looked at."""

import unittest
from copy import deepcopy
from fractions import Fraction
from random import Random

from outlasts.errors import SpanError

# Late begins, two kinds of end at one time, and some cut off at the time of each row.
LATE = ((0, 5, 1), (2, 5, 0), (5, 9, 2), (4, 5, 3), (6, 9, 0))
# All that are watched end at 3; others begin later.
GAP = ((0, 3, 1), (0, 3, 2), (5, 9, 1), (6, 9, 0))
# Nothing is seen to end.
CUT = ((0, 7, 0), (3, 9, 0), (0, 7, 0))
# A plain one, in which some are cut off ahead of, at and between the ends.
PLAIN = ((0, 3, 0), (0, 5, 1), (0, 5, 0), (0, 9, 2), (0, 7, 0))
# The weightings.
WORDS = ("one", "many", "share")


def deep(levels):
    """Tuples within one another, the innermost a span."""
    thing = (0, 7, 1)
    for _ in range(levels):
        thing = (thing,)
    return thing


# Made anew by each call, so that no test can spoil them for another one.
def odd_things():
    """Things that are no whole number, no fraction, no span and no book."""
    return [
        None, True, False, "", "0-7!1", "a" * 400, "\t\n ~", [], (), {},
        [0, 7, 1], [(0, 7, 1)], [[0, 7, 1]], ([0, 7, 1],), {0: (0, 7, 1)}, {"begin": 0, "until": 7, "end": 1},
        ("0", "7", "1"), (("0", "7", "1"),), (None, None, None), ((None, 7, 1),), "abc", ("abc",), ((),), ({},),
        deep(2), deep(7), [[[[[[[[]]]]]]]], {"a": {"b": {"c": {"d": [1, (2, {"e": None})]}}}},
        tuple(range(2000)), list(range(2000)),
    ]


def bad_books():
    bad = [((0, 7, 1),) * 41, ((0, 7, 1), (7, 7, 1)), ((0, 7, True),), ((0, 1000, 1),), (0, 7, 1), 0, 7]
    return bad + odd_things()


def unplain():
    """Books that are not plain."""
    return [
        ((1, 7, 1),), ((0, 7, 1), (1, 7, 1)), ((6, 7, 0), (0, 7, 1)), ((998, 999, 0),),
        ((0, 9, 0),) * 39 + ((3, 9, 0),), *late_forties(),
    ]


def bad_times():
    return [-1, -9_999, 10_000, 999_999_999_999, -999_999_999_999, "3", (3,), [3]] + odd_things()


def bad_kinds():
    return [0, 5, -1, 6, 999_999_999_999, -999_999_999_999, "1", (1,), [1], (1, 1)] + odd_things()


def bad_fractions():
    """Things that are no fraction from 0 to 1, also such as are above 1 or below 0."""
    return [
        (1, 0), (0, 0), (2, 4), (3, 3), (0, 2), (-1, 2), (-1, 1), (3, 2), (2, 1), (1, -2), (-1, -2), (0, -1),
        [1, 2], (True, 2), (1, True), (False, 1), (True, True), (0, True), (1,), (1, 2, 3), (1, 2, None), ("1", "2"),
        ((1, 2),), (None, 1), (0, None), 0, 1, 2, -1, "1/2", "0", "1",
    ] + odd_things()


def bad_marks(book):
    """Things that are no marks of a book."""
    many = len(book)
    good = (1,) + (0,) * (many - 1)
    return [
        (0,) * many, (1,) * many, (), good + (0,), good + (1,), good[:-1], good[1:], list(good), [good], (good,),
        dict(enumerate(good)), good[:-1] + (2,), good[:-1] + (-1,), (2,) + good[1:], good[:-1] + (False,),
        (True,) + good[1:], (True,) + (False,) * (many - 1), good[:-1] + (None,), good[:-1] + ("0",),
        good[:-1] + ((0,),), good[:-1] + ([],), "10000"[:many], 0, 1, 10_000, {1: 0},
    ] + odd_things()


def bad_words():
    """Things that are no weighting."""
    return [
        "One", "ONE", "Many", "SHARE", "on", "ones", " one", "one ", "one\n", "onemany", "o", "none", "1", "shares",
        0, 1, -1, 3, ["one"], ("one",), {"one": 1}, {"one": "one"}, ("one", "many", "share"),
    ] + odd_things()


def random_marks(source, book):
    """Marks of a book of two spans or more, each of 0 and 1 at least once."""
    marks = [0, 1] + [source.randint(0, 1) for _ in book[2:]]
    source.shuffle(marks)
    return tuple(marks)


def random_book(source):
    """A small book with many alike times, so that ends, cut-offs and begins often meet."""
    spans = []
    for _ in range(source.randint(1, 12)):
        begin = source.choice((0, 0, source.randint(0, 6)))
        spans.append((begin, begin + source.randint(1, 6), source.choice((0, 0, 1, 2, 3, 4))))
    return tuple(spans)


def random_plain_book(source):
    """A small book whose begins are all 0, also with many alike times."""
    return tuple((0, source.randint(1, 9), source.choice((0, 0, 1, 2, 3, 4))) for _ in range(source.randint(1, 10)))


def random_books(seed, many=150):
    """Fixed by its seed: books of both sorts, turn by turn."""
    source = Random(seed)
    return [random_book(source) if at % 2 else random_plain_book(source) for at in range(many)]


def plain_forties():
    """Plain books of as many spans as there may be."""
    return [
        tuple((0, 999 - at, 1 + at % 4) for at in range(40)),
        tuple((0, 1 + at * 7 % 40, at % 5) for at in range(40)),
        tuple((0, 1 + at, 1 if at == 39 else 0) for at in range(40)),
        tuple((0, 1 + at // 4, (at * 3) % 5) for at in range(40)),
        ((0, 7, 1),) * 40,
        ((0, 7, 0),) * 40,
    ]


def late_forties():
    """Books of as many spans as there may be, with late begins."""
    return [
        tuple((at, at + 30 + at % 7, at % 5) for at in range(40)),
        tuple((at * 5 % 8, 10 + at * 11 % 40, 1 + at % 4) for at in range(40)),
    ]


def frac(told):
    """What a told fraction is worth."""
    return Fraction(*told)


class Asked(unittest.TestCase):
    def assert_fraction(self, told, wanted):
        """What is told is the tuple of the wanted worth in lowest terms, bottom above 0."""
        wanted = Fraction(wanted)
        self.assertIs(type(told), tuple)
        self.assertEqual(told, (wanted.numerator, wanted.denominator))
        self.assertEqual([type(number) for number in told], [int, int])

    def assert_refused(self, error, deed, *handed):
        """Refused by just this class, and nothing that was handed in is changed."""
        before = repr(deepcopy(handed))
        with self.assertRaises(SpanError) as caught:
            deed(*handed)
        self.assertIs(type(caught.exception), error, handed)
        self.assertEqual(repr(handed), before)
