"""Point [100]: the deeds of a ledger, what stands behind each, what is undone, and what is refused in which order."""

import unittest
from copy import deepcopy
from random import Random

from outlasts.books import is_book
from outlasts.errors import NoDay, NoDeed, NoKind, NoName, NoNumber, NoTime, SpanError
from outlasts.ledger import Ledger
from outlasts.shares import share_at
from things import Asked, bad_kinds, odd_things

BAD_NAMES = ["", "abcdefg", "A", "aB", "a1", "a ", " a", "a b", "a-b", "a\n", "a_b", "`", "{", "~", 0, 1, ("a",), ["a"],
             {"a": 1}]
BAD_DAYS = [-1, 10_000, 999_999_999_999, -999_999_999_999, "5", (5,), [5]]


def bad_names():
    # These are texts of other signs, or no texts at all.
    return BAD_NAMES + [thing for thing in odd_things() if thing != "abc"]


def bad_days():
    return BAD_DAYS + [thing for thing in odd_things() if thing is not None]


def bad_ends():
    """What is neither a kind of end nor 0."""
    return [end for end in bad_kinds() if not (isinstance(end, int) and not isinstance(end, bool) and end == 0)]


def told(*deeds):
    """A ledger that was told these deeds, each a tuple of its word and what is handed in."""
    ledger = Ledger()
    for word, *handed in deeds:
        getattr(ledger, word)(*handed)
    return ledger


def state(ledger):
    """All that a ledger tells, but stories."""
    many = len(ledger)
    return (many, ledger.names(), ledger.size(), repr(ledger), [ledger.book(at) for at in range(many + 1)])


class Kept(Asked):
    def assert_kept(self, error, ledger, word, *handed):
        """Refused by just this class, nothing of the ledger or of what is handed in being changed."""
        before = (state(ledger), repr(deepcopy(handed)))
        twin = ledger.twin()
        with self.assertRaises(SpanError) as caught:
            getattr(ledger, word)(*handed)
        self.assertIs(type(caught.exception), error, (word, handed))
        self.assertEqual((state(ledger), repr(handed)), before)
        self.assertTrue(ledger == twin)


class Begin(Kept):
    def test_what_stands_behind_it(self):
        ledger = Ledger()
        self.assertIsNone(ledger.begin("b", 5))
        self.assertIsNone(ledger.begin("a", 7, 9))
        self.assertEqual((ledger.names(), ledger.size(), len(ledger)), (["a", "b"], (2, 2), 2))
        self.assertEqual(repr(ledger), "Ledger(2 things, 2 tellings)")
        self.assertIsNone(ledger.book())

    def test_the_day_of_watching(self):
        for handed, begin in (((5,), 0), ((5, None), 0), ((5, 5), 0), ((5, 6), 1), ((5, 8), 3), ((0, 998), 998)):
            ledger = told(("begin", "a", *handed))
            last = (handed[1] if len(handed) > 1 and handed[1] is not None else handed[0]) + 1
            ledger.seen("a", last)
            self.assertEqual(ledger.book(), ((begin, last - handed[0], 0),))

    def test_by_name(self):
        ledger = Ledger()
        ledger.begin(watched=8, day=5, name="a")
        ledger.begin(name="b", day=5)
        ledger.begin("c", watched=None, day=5)
        self.assertTrue(ledger == told(("begin", "a", 5, 8), ("begin", "b", 5), ("begin", "c", 5)))

    def test_edges_of_days(self):
        ledger = told(("begin", "a", 0), ("begin", "b", 9_999), ("begin", "c", 9_999, 9_999), ("begin", "d", 9_001, 9_999))
        self.assertEqual(ledger.names(), ["a", "b", "c", "d"])
        # Nothing is above the last day there is.
        for day in (9_999, 10_000):
            for name in ("b", "c", "d"):
                self.assert_kept(NoDay, ledger, "seen", name, day)

    def test_how_far_watching_may_be_above_the_begin(self):
        for day in (0, 7, 9_000):
            told(("begin", "a", day, day + 998))
            self.assert_kept(NoDay, Ledger(), "begin", "a", day, day + 999)
            self.assert_kept(NoDay, Ledger(), "begin", "a", day, min(day + 1_000, 9_999))

    def test_watching_below_the_begin(self):
        for day, watched in ((5, 4), (5, 0), (9_999, 0), (1, 0)):
            self.assert_kept(NoDay, Ledger(), "begin", "a", day, watched)

    def test_names(self):
        for name in ("a", "z", "abcdef", "zzzzzz", "seen", "none", "drop"):
            self.assertEqual(told(("begin", name, 5)).names(), [name])
        for name in bad_names():
            with self.subTest(name=name):
                for day in (5, -1, None):
                    self.assert_kept(NoName, Ledger(), "begin", name, day)
                    self.assert_kept(NoName, Ledger(), "begin", name, day, 4)

    def test_a_name_that_is_there(self):
        ledger = told(("begin", "a", 5), ("seen", "a", 9), ("begin", "b", 1))
        for day in (5, 6, -1, None):
            self.assert_kept(NoName, ledger, "begin", "a", day)
            self.assert_kept(NoName, ledger, "begin", "b", day, 4)
        ledger.ended("a", 9, 1)
        self.assert_kept(NoName, ledger, "begin", "a", 5)

    def test_no_day(self):
        for day in bad_days() + [None]:
            with self.subTest(day=day):
                self.assert_kept(NoDay, Ledger(), "begin", "a", day)
                for watched in (5, None, "5", -1):
                    self.assert_kept(NoDay, Ledger(), "begin", "a", day, watched)
        for watched in bad_days():
            with self.subTest(watched=watched):
                self.assert_kept(NoDay, Ledger(), "begin", "a", 0, watched)
                self.assert_kept(NoDay, Ledger(), "begin", "a", 9_999, watched)


class Seen(Kept):
    def test_what_stands_behind_it(self):
        ledger = told(("begin", "a", 5))
        self.assertIsNone(ledger.seen("a", 8))
        self.assertEqual((ledger.book(), ledger.size(), len(ledger)), (((0, 3, 0),), (1, 2), 2))
        ledger.seen(day=9, name="a")
        self.assertEqual((ledger.book(), repr(ledger)), (((0, 4, 0),), "Ledger(1 things, 3 tellings)"))

    def test_twice_on_a_day_or_earlier(self):
        ledger = told(("begin", "a", 5), ("seen", "a", 8))
        for day in (8, 7, 6):
            self.assert_kept(NoDeed, ledger, "seen", "a", day)
        ledger.seen("a", 9)

    def test_behind_an_end_on_whatever_day(self):
        ledger = told(("begin", "a", 5), ("ended", "a", 8, 2))
        for day in (6, 7, 8, 9, 1_004):
            self.assert_kept(NoDeed, ledger, "seen", "a", day)

    def test_behind_a_mend(self):
        ledger = told(("begin", "a", 5), ("seen", "a", 20), ("mend", "a", 8, 0))
        self.assert_kept(NoDeed, ledger, "seen", "a", 8)
        self.assert_kept(NoDeed, ledger, "seen", "a", 7)
        ledger.seen("a", 9)
        self.assertEqual(ledger.book(), ((0, 4, 0),))
        ledger.mend("a", 7, 3)
        self.assert_kept(NoDeed, ledger, "seen", "a", 9)
        ledger.mend("a", 7, 0)
        ledger.seen("a", 8)
        self.assertEqual(ledger.book(), ((0, 3, 0),))


class Ended(Kept):
    def test_what_stands_behind_it(self):
        ledger = told(("begin", "a", 5, 6))
        self.assertIsNone(ledger.ended("a", 8, 4))
        self.assertEqual((ledger.book(), ledger.size(), len(ledger)), (((1, 3, 4),), (1, 2), 2))
        ledger = told(("begin", "a", 5))
        ledger.ended(end=1, day=9, name="a")
        self.assertEqual(ledger.book(), ((0, 4, 1),))

    def test_on_the_day_on_which_it_was_seen_last(self):
        ledger = told(("begin", "a", 5), ("seen", "a", 8))
        for day in (6, 7):
            self.assert_kept(NoDeed, ledger, "ended", "a", day, 1)
        ledger.ended("a", 8, 1)
        self.assertEqual(ledger.book(), ((0, 3, 1),))

    def test_later_than_it_was_seen(self):
        self.assertEqual(told(("begin", "a", 5), ("seen", "a", 8), ("ended", "a", 9, 2)).book(), ((0, 4, 2),))

    def test_twice(self):
        ledger = told(("begin", "a", 5), ("ended", "a", 8, 1))
        for day in (6, 8, 9):
            for end in (1, 2):
                self.assert_kept(NoDeed, ledger, "ended", "a", day, end)

    def test_behind_a_mend(self):
        ledger = told(("begin", "a", 5), ("ended", "a", 8, 1), ("mend", "a", 7, 0))
        self.assert_kept(NoDeed, ledger, "ended", "a", 6, 1)
        ledger.ended("a", 7, 3)
        self.assertEqual(ledger.book(), ((0, 2, 3),))
        ledger.mend("a", 20, 2)
        for day in (19, 20, 21):
            self.assert_kept(NoDeed, ledger, "ended", "a", day, 1)

    def test_no_kind(self):
        ledger = told(("begin", "a", 5), ("begin", "b", 5), ("ended", "b", 8, 1))
        for end in bad_kinds():
            with self.subTest(end=end):
                self.assert_kept(NoKind, ledger, "ended", "a", 8, end)
                # NoDeed would be due behind it.
                self.assert_kept(NoKind, ledger, "ended", "b", 8, end)


class Mend(Kept):
    def test_of_one_that_never_was_seen(self):
        for end in range(5):
            ledger = told(("begin", "a", 5, 6))
            self.assertIsNone(ledger.mend("a", 8, end))
            self.assertEqual((ledger.book(), ledger.size(), len(ledger)), (((1, 3, end),), (1, 2), 2))

    def test_of_one_that_ended_or_was_seen(self):
        for deed in (("ended", "a", 20, 1), ("seen", "a", 20)):
            for day in (6, 19, 20, 21, 1_004):
                for end in range(5):
                    ledger = told(("begin", "a", 5), deed, ("mend", "a", day, end))
                    self.assertEqual(ledger.book(), ((0, day - 5, end),))

    def test_twice_and_just_so(self):
        ledger = told(("begin", "a", 5), ("mend", "a", 8, 1), ("mend", "a", 8, 1), ("mend", "a", 7, 0))
        self.assertEqual((ledger.book(), len(ledger)), (((0, 2, 0),), 4))

    def test_by_name(self):
        ledger = told(("begin", "a", 5))
        ledger.mend(end=0, name="a", day=9)
        self.assertEqual(ledger.book(), ((0, 4, 0),))

    def test_no_kind(self):
        ledger = told(("begin", "a", 5), ("ended", "a", 8, 1))
        for end in bad_ends():
            with self.subTest(end=end):
                self.assert_kept(NoKind, ledger, "mend", "a", 8, end)


class LastDays(Kept):
    DEEDS = (("seen", ()), ("ended", (1,)), ("mend", (0,)), ("mend", (2,)))

    def test_above_the_day_of_watching(self):
        for word, more in self.DEEDS:
            for watched in (5, 9, 1_003):
                for day in (5, watched - 1, watched):
                    if day >= 5:
                        self.assert_kept(NoDay, told(("begin", "a", 5, watched)), word, "a", day, *more)
                ledger = told(("begin", "a", 5, watched), (word, "a", watched + 1, *more))
                self.assertEqual(ledger.book(), ((watched - 5, watched - 4, more[0] if more else 0),))
                self.assertIs(is_book(ledger.book()), True)

    def test_above_the_begin(self):
        for word, more in self.DEEDS:
            for begin in (0, 5, 9_000):
                ledger = told(("begin", "a", begin, begin + 2))
                if begin + 1_000 <= 9_999:
                    self.assert_kept(NoDay, ledger, word, "a", begin + 1_000, *more)
                    self.assert_kept(NoDay, ledger, word, "a", begin + 1_001, *more)
                getattr(ledger, word)("a", begin + 999, *more)
                self.assertEqual(ledger.book(), ((2, 999, more[0] if more else 0),))

    def test_the_last_day_of_all(self):
        for word, more in self.DEEDS:
            ledger = told(("begin", "a", 9_998), (word, "a", 9_999, *more))
            self.assertEqual(ledger.book(), ((0, 1, more[0] if more else 0),))

    def test_no_day(self):
        for word, more in self.DEEDS:
            for day in bad_days() + [None, 0, 4, 5]:
                with self.subTest(word=word, day=day):
                    self.assert_kept(NoDay, told(("begin", "a", 5)), word, "a", day, *more)
                    self.assert_kept(NoDay, told(("begin", "a", 5), ("ended", "a", 8, 1)), word, "a", day, *more)


class Order(Kept):
    def test_no_name_ahead_of_all(self):
        for deeds in ((), (("begin", "b", 5),), (("begin", "a", 5), ("drop", "a"))):
            ledger = told(*deeds)
            for name in ("a", "abcdefg", None, "B", 5, ["b"]):
                for day in (8, -1, None):
                    self.assert_kept(NoName, ledger, "seen", name, day)
                    for end in (1, 0, 7, None):
                        self.assert_kept(NoName, ledger, "ended", name, day, end)
                        self.assert_kept(NoName, ledger, "mend", name, day, end)
                self.assert_kept(NoName, ledger, "drop", name)

    def test_names_of_anything(self):
        for name in bad_names():
            ledger = told(("begin", "a", 5))
            self.assert_kept(NoName, ledger, "seen", name, 8)
            self.assert_kept(NoName, ledger, "ended", name, 8, 1)
            self.assert_kept(NoName, ledger, "mend", name, 8, 1)
            self.assert_kept(NoName, ledger, "drop", name)

    def test_no_day_ahead_of_no_kind_ahead_of_no_deed(self):
        ledger = told(("begin", "a", 5, 6), ("ended", "a", 20, 1))
        for day in (6, 5, 1_005, -1, None, True):
            self.assert_kept(NoDay, ledger, "seen", "a", day)
            for end in (1, 0, 5, None, True):
                self.assert_kept(NoDay, ledger, "ended", "a", day, end)
                self.assert_kept(NoDay, ledger, "mend", "a", day, end)
        for day in (7, 20, 1_004):
            self.assert_kept(NoDeed, ledger, "seen", "a", day)
            self.assert_kept(NoDeed, ledger, "ended", "a", day, 2)
            self.assert_kept(NoKind, ledger, "ended", "a", day, 0)
            self.assert_kept(NoKind, ledger, "ended", "a", day, None)
            self.assert_kept(NoKind, ledger, "mend", "a", day, 5)


class Drop(Kept):
    def test_what_stands_behind_it(self):
        ledger = told(("begin", "a", 5), ("seen", "a", 8), ("begin", "b", 5), ("seen", "b", 9))
        self.assertIsNone(ledger.drop("a"))
        self.assertEqual((ledger.book(), ledger.names(), ledger.size()), (((0, 4, 0),), ["b"], (1, 5)))
        self.assertEqual(repr(ledger), "Ledger(1 things, 5 tellings)")
        ledger.drop(name="b")
        self.assertEqual((ledger.book(), ledger.names(), ledger.size(), len(ledger)), (None, [], (0, 6), 6))

    def test_begin_again(self):
        ledger = told(("begin", "a", 5), ("ended", "a", 8, 1), ("drop", "a"), ("begin", "a", 2, 3))
        # Nothing of what was told of it stays.
        self.assertIsNone(ledger.book())
        self.assert_kept(NoDay, ledger, "seen", "a", 3)
        ledger.seen("a", 4)
        self.assertEqual((ledger.book(), ledger.size()), (((1, 2, 0),), (1, 5)))

    def test_twice(self):
        ledger = told(("begin", "a", 5), ("drop", "a"))
        self.assert_kept(NoName, ledger, "drop", "a")


class Undo(Kept):
    def test_of_each_deed(self):
        steps = (
            ("begin", "a", 5), ("seen", "a", 8), ("seen", "a", 9), ("ended", "a", 9, 1), ("mend", "a", 7, 0),
            ("mend", "a", 8, 4), ("begin", "b", 1, 2), ("mend", "b", 3, 2), ("drop", "a"), ("begin", "a", 4),
            ("ended", "a", 5, 3), ("drop", "b"), ("drop", "a"),
        )
        ledger = told(*steps)
        for many in range(len(steps) - 1, -1, -1):
            self.assertIsNone(ledger.undo())
            wanted = told(*steps[:many])
            self.assertEqual(state(ledger), state(wanted))
            self.assertTrue(ledger == wanted)
        self.assert_kept(NoDeed, ledger, "undo")
        self.assertEqual(state(ledger), state(Ledger()))

    def test_of_a_drop_all_that_was_told_is_there_again(self):
        ledger = told(("begin", "a", 5, 6), ("seen", "a", 8), ("ended", "a", 9, 4), ("drop", "a"))
        ledger.undo()
        self.assertEqual((ledger.book(), ledger.names()), (((1, 4, 4),), ["a"]))
        self.assert_kept(NoDeed, ledger, "ended", "a", 9, 1)
        ledger.undo()
        self.assertEqual(ledger.book(), ((1, 3, 0),))
        self.assert_kept(NoDeed, ledger, "seen", "a", 8)
        ledger.seen("a", 9)

    def test_it_is_no_telling_and_is_not_undone(self):
        ledger = told(("begin", "a", 5), ("seen", "a", 8), ("undo",), ("undo",))
        self.assertEqual((len(ledger), ledger.names()), (0, []))
        self.assert_kept(NoDeed, ledger, "undo")
        ledger.begin("a", 6)
        self.assertEqual(ledger.size(), (1, 1))

    def test_what_was_refused_is_not_undone(self):
        ledger = told(("begin", "a", 5), ("seen", "a", 8))
        self.assert_kept(NoDeed, ledger, "seen", "a", 8)
        self.assert_kept(NoDay, ledger, "begin", "b", -1)
        ledger.undo()
        self.assertEqual((ledger.names(), ledger.size(), ledger.book()), (["a"], (1, 1), None))

    def test_of_an_empty_ledger(self):
        self.assert_kept(NoDeed, Ledger(), "undo")


class Plain:
    """A ledger as plain as can be: all that stood behind each telling is kept whole."""

    def __init__(self):
        self.stood = [{}]

    def do(self, word, *handed):
        """Tell which error is due, None where the deed is done."""
        if word == "undo":
            if len(self.stood) == 1:
                return NoDeed
            self.stood.pop()
            return None
        things = deepcopy(self.stood[-1])
        error = getattr(self, word)(things, *handed)
        if error is None:
            self.stood.append(things)
        return error

    def begin(self, things, name, day, watched):
        watched = day if watched is None else watched
        if name in things:
            return NoName
        if not (0 <= day <= watched <= 9_999 and watched <= day + 998):
            return NoDay
        things[name] = {"begin": day, "watched": watched}

    def last(self, things, name, day):
        if name not in things:
            return NoName
        if not (things[name]["watched"] < day <= min(9_999, things[name]["begin"] + 999)):
            return NoDay

    def seen(self, things, name, day):
        error = self.last(things, name, day)
        if error is None and (things[name].get("end", 0) or things[name].get("last", -1) >= day):
            return NoDeed
        if error is None:
            things[name].update(last=day, end=0)
        return error

    def ended(self, things, name, day, end):
        error = self.last(things, name, day)
        if error is None and end not in (1, 2, 3, 4):
            return NoKind
        if error is None and (things[name].get("end", 0) or things[name].get("last", -1) > day):
            return NoDeed
        if error is None:
            things[name].update(last=day, end=end)
        return error

    def mend(self, things, name, day, end):
        error = self.last(things, name, day)
        if error is None and end not in (0, 1, 2, 3, 4):
            return NoKind
        if error is None:
            things[name].update(last=day, end=end)
        return error

    def drop(self, things, name):
        if name not in things:
            return NoName
        del things[name]

    def book(self, told):
        things = self.stood[told]
        spans = [(thing["watched"] - thing["begin"], thing["last"] - thing["begin"], thing["end"])
                 for _, thing in sorted(things.items()) if "last" in thing]
        return tuple(spans) if 1 <= len(spans) <= 40 else None


class Drawn(Asked):
    def deed(self, source):
        word = source.choice(("begin", "begin", "seen", "seen", "ended", "mend", "mend", "drop", "undo"))
        name, day = source.choice("abcd"), source.choice((source.randint(0, 12), source.randint(0, 12), 1_003))
        more = {"begin": (source.choice((None, day, day + 1, day - 1, day + 999)),), "ended": (source.randint(0, 4),),
                "mend": (source.randint(0, 5),)}.get(word, ())
        return {"undo": ("undo",), "drop": ("drop", name)}.get(word, (word, name, day, *more))

    def test_against_a_plain_one(self):
        source = Random(100)
        for _ in range(60):
            ledger, plain = Ledger(), Plain()
            for _ in range(80):
                word, *handed = self.deed(source)
                error = plain.do(word, *handed)
                if error is None:
                    self.assertIsNone(getattr(ledger, word)(*handed))
                else:
                    self.assert_refused(error, getattr(ledger, word), *handed)
                self.assertEqual(ledger.size(), (len(plain.stood[-1]), len(plain.stood) - 1))
                self.assertEqual(ledger.names(), sorted(plain.stood[-1]))
                self.assertEqual(ledger.book(), plain.book(-1))
            books = [plain.book(at) for at in range(len(plain.stood))]
            self.assertEqual([ledger.book(at) for at in range(len(ledger) + 1)], books)
            for time in (0, 3, 6):
                shares = [None if book is None else share_at(book, time) for book in books]
                wanted = [(at, shares[at]) for at in range(1, len(shares)) if shares[at] != shares[at - 1]]
                self.assertEqual(ledger.story(time), wanted)
            self.assert_refused(NoNumber, ledger.book, len(ledger) + 1)
            self.assert_refused(NoTime, ledger.story, -1)


if __name__ == "__main__":
    unittest.main()
