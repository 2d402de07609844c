"""Points [1] to [5] and the interface, over the whole program: names, what they take, and what goes together."""

import importlib
import unittest
from copy import deepcopy
from inspect import Parameter, isclass, isfunction, signature
from itertools import permutations
from random import Random

from outlasts import errors
from outlasts.bands import band, sureness
from outlasts.books import is_book, is_span, rows, watched
from outlasts.dealings import as_far, dealings, farthest
from outlasts.desk import Desk
from outlasts.fractions import is_fraction
from outlasts.handing import weights
from outlasts.kinds import alone, came_at, one_kind
from outlasts.ledger import Ledger
from outlasts.lots import due, score
from outlasts.shares import best_parts, share_at, shares, time_of, worth
from outlasts.texts import book_text, fraction_text, read_book, read_fraction
from outlasts.truths import bounds, is_truth, latest, may_outlast, shows_may, shows_never, soonest
from things import PLAIN, Asked, frac, odd_things, random_books, random_marks, random_plain_book

# As the interface tells them, module by module.
FUNCTIONS = {
    "books": ["is_span(thing)", "is_book(thing)", "watched(book, time)", "rows(book)"],
    "shares": ["share_at(book, time)", "shares(book)", "time_of(book, share)", "mean_upto(book, time)",
               "spread_at(book, time)", "worth(book, parts)", "best_parts(book)"],
    "handing": ["weights(book)", "parcels(book)", "are_parcels(book, thing)"],
    "rates": ["rates(book)", "rate_at(book, time)"],
    "kinds": ["came(book, end)", "came_at(book, end, time)", "alone(book, end)", "one_kind(book)"],
    "lots": ["due(book, marks)", "score(book, marks, weighting='one')", "spread(book, marks, weighting='one')"],
    "dealings": ["dealings(book, marks, weighting='one')", "as_far(book, marks, weighting='one')",
                 "farthest(book, marks, weighting='one')"],
    "bands": ["sureness(many, share, i, j)", "band(book, share, sure)"],
    "truths": ["is_truth(book, thing)", "bounds(book, time)", "soonest(book)", "latest(book)",
               "may_outlast(one, other)", "must_outlast(one, other)", "shows_may(one, other, thing)",
               "shows_never(one, other, thing)", "shows_not(one, other, thing)"],
    "texts": ["book_text(book)", "fraction_text(fraction)", "read_book(text)", "read_fraction(text)"],
}
METHODS = {
    Ledger: ["begin(self, name, day, watched=None)", "seen(self, name, day)", "ended(self, name, day, end)",
             "mend(self, name, day, end)", "drop(self, name)", "undo(self)", "book(self, told=None)",
             "story(self, time)", "names(self)", "size(self)", "twin(self)"],
    Desk: ["say(self, line)"],
}


class Interface(Asked):
    def test_functions(self):
        for module, wanted in FUNCTIONS.items():
            own = importlib.import_module(f"outlasts.{module}")
            for told in wanted:
                name = told.partition("(")[0]
                self.assertTrue(isfunction(getattr(own, name)))
                self.assertEqual(getattr(own, name).__module__, f"outlasts.{module}")
                self.assertEqual(f"{name}{signature(getattr(own, name))}", told)

    def test_methods_stand_in_their_class(self):
        for own, wanted in METHODS.items():
            for told in wanted:
                name = told.partition("(")[0]
                self.assertIn(name, vars(own))
                self.assertEqual(f"{name}{signature(vars(own)[name])}", told)
        for name in ("__len__", "__eq__", "__repr__"):
            self.assertIn(name, vars(Ledger))

    def test_classes_are_made_without_anything(self):
        for own in METHODS:
            self.assertIs(type(own()), own)
            self.assertEqual(len(signature(own).parameters), 0)

    def test_each_argument_stands_at_its_place_or_has_its_name(self):
        for module, wanted in FUNCTIONS.items():
            own = importlib.import_module(f"outlasts.{module}")
            for told in wanted:
                for parameter in signature(getattr(own, told.partition("(")[0])).parameters.values():
                    self.assertIs(parameter.kind, Parameter.POSITIONAL_OR_KEYWORD)

    def test_errors_are_classes(self):
        self.assertTrue(all(isclass(own) for name, own in vars(errors).items() if name[:2] in ("No", "To")))


class ByName(Asked):
    """Those that tests of other files do not call by names in every order."""

    CALLS = [
        (is_span, {"thing": (0, 7, 1)}, True), (is_book, {"thing": PLAIN}, True), (rows, {"book": ((0, 7, 0),)}, []),
        (watched, {"book": PLAIN, "time": 5}, 4),
        (sureness, {"many": 3, "share": (1, 3), "i": 1, "j": 3}, (2, 3)),
        (fraction_text, {"fraction": (-1, 2)}, "-1/2"), (read_fraction, {"text": "-1/2"}, (-1, 2)),
        (read_book, {"text": "0-7"}, ((0, 7, 0),)),
    ]

    def test_functions(self):
        for deed, handed, wanted in self.CALLS:
            self.assertEqual(deed(*handed.values()), wanted)
            for order in permutations(handed):
                self.assertEqual(deed(**{name: handed[name] for name in order}), wanted)

    def test_methods(self):
        deeds = [
            ("begin", {"name": "a", "day": 5, "watched": 6}), ("seen", {"name": "a", "day": 8}),
            ("ended", {"name": "a", "day": 8, "end": 2}), ("mend", {"name": "a", "day": 7, "end": 0}),
            ("drop", {"name": "a"}),
        ]
        at_their_places = Ledger()
        for word, handed in deeds:
            getattr(at_their_places, word)(*handed.values())
        for turn in range(6):
            ledger = Ledger()
            for word, handed in deeds:
                orders = list(permutations(handed))
                order = orders[turn % len(orders)]
                self.assertIsNone(getattr(ledger, word)(**{name: handed[name] for name in order}))
            self.assertTrue(ledger == at_their_places)
        self.assertEqual(at_their_places.book(told=4), ((1, 2, 0),))
        self.assertEqual(at_their_places.story(time=2), at_their_places.story(2))
        self.assertEqual(Desk().say(line="names"), "none")


class Handed(Asked):
    def test_nothing_of_anything_is_changed(self):
        ledger, desk = Ledger(), Desk()
        ledger.begin("a", 5)
        asked = [
            is_span, is_book, lambda thing: is_truth(PLAIN, thing), lambda thing: shows_may(PLAIN, PLAIN, thing),
            lambda thing: shows_never(PLAIN, PLAIN, thing), desk.say, read_book, read_fraction, fraction_text, book_text,
            lambda thing: ledger.seen("a", thing), lambda thing: ledger.begin(thing, 5), ledger.story, ledger.drop,
            lambda thing: ledger.ended("a", 8, thing), lambda thing: score(PLAIN, thing, thing),
            lambda thing: dealings(PLAIN, (0, 1, 0, 0, 1), thing), lambda thing: band(PLAIN, thing, thing),
        ]
        for thing in odd_things():
            before = repr(deepcopy(thing))
            for deed in asked:
                try:
                    deed(thing)
                except errors.SpanError:
                    pass
                self.assertEqual(repr(thing), before)
        # One of the things is a name: it was begun and dropped.
        self.assertEqual((ledger.names(), ledger.book()), (["a"], None))

    def test_what_is_told_is_not_changed_by_later_deeds(self):
        ledger = Ledger()
        ledger.begin("a", 0)
        ledger.seen("a", 5)
        book, names, story, size = ledger.book(), ledger.names(), ledger.story(3), ledger.size()
        ledger.begin("b", 0)
        ledger.ended("b", 2, 1)
        ledger.drop("a")
        self.assertEqual((book, names, story, size), (((0, 5, 0),), ["a"], [(2, (1, 1))], (1, 2)))


class Together(Asked):
    """What one part of the program tells is taken by the others, and goes with what they tell."""

    def test_books_that_are_told(self):
        for book in random_books(200, 60):
            for told in (alone(book, 2), one_kind(book), read_book(book_text(book))):
                self.assertIs(is_book(told), True)
                self.assertEqual(read_book(book_text(told)), told)
                shares(told)

    def test_fractions_that_are_told(self):
        for book in random_books(201, 60):
            for _, share in shares(book):
                self.assertIs(is_fraction(share), True)
                self.assertEqual(read_fraction(fraction_text(share)), share)
                self.assertLessEqual(frac(share_at(book, time_of(book, share))), frac(share))
            told = worth(book, best_parts(book))
            self.assertEqual(read_fraction(fraction_text(told)), told)

    def test_marks_that_are_told(self):
        source = Random(202)
        for book in random_books(202, 40):
            if len(book) > 1:
                marks = farthest(book, random_marks(source, book))
                self.assertEqual(frac(score(book, marks)), due(book, marks)[0] - frac(due(book, marks)[1]))
                self.assertEqual(dealings(book, marks)[-1][0], score(book, marks))
                self.assertGreaterEqual(as_far(book, marks)[0], dealings(book, marks)[-1][1])

    def test_the_share_lies_between_its_bounds(self):
        source = Random(203)
        for _ in range(60):
            book = random_plain_book(source)
            for time in range(10):
                least, greatest = bounds(book, time)
                self.assertLessEqual(frac(least), frac(share_at(book, time)))
                self.assertLessEqual(frac(share_at(book, time)), frac(greatest))
            self.assertEqual(len(weights(book)), len(latest(book)))
            self.assertIs(is_truth(book, soonest(book)), True)

    def test_the_promise(self):
        source = Random(205)
        for _ in range(60):
            one, other = random_plain_book(source), random_plain_book(source)
            told = may_outlast(one, other)
            self.assertIs(shows_may(one, other, (latest(one), soonest(other))), told[0] == "may")
            found = [time for time in range(2_010) if shows_never(one, other, time)]
            self.assertEqual(found == [], told[0] == "may")
            self.assertEqual(found[:1], list(told[1:]) if told[0] == "never" else [])

    def test_a_ledgers_book_is_taken(self):
        ledger, desk = Ledger(), Desk()
        for at, name in enumerate("abcdef"):
            ledger.begin(name, at, at + at % 2)
            ledger.mend(name, at + 3 + at % 3, at % 5)
            desk.say(f"begin {name} {at} {at + at % 2}")
            desk.say(f"mend {name} {at + 3 + at % 3} {at % 5}")
        book = ledger.book()
        self.assertIs(is_book(book), True)
        self.assertEqual(read_book(desk.say("book")), book)
        self.assertEqual(desk.say("came 2 9"), fraction_text(came_at(book, 2, 9)))


if __name__ == "__main__":
    unittest.main()
