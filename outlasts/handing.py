"""Shares by handing on: what the spans of a plain book weigh once the cut-off ones have handed on what they weighed."""

from outlasts.books import CUT_OFF, check_plain
from outlasts.fractions import NOUGHT, is_fraction, is_whole, lowest, plus, product


def weights(book):
    """Tell the list of what each span of a plain book weighs in the end, in the book's order."""
    check_plain(book)
    weighing, handed = hand_on(book)
    return weighing


def parcels(book):
    """Tell the list of (giver, taker, part) of a plain book, by the giver's until, then giver, then taker."""
    check_plain(book)
    weighing, handed = hand_on(book)
    return handed


def are_parcels(book, thing):
    """Tell of a plain book and of anything whether this is a tuple of just its parcels, in any order."""
    wanted = parcels(book)
    # The form comes first: a truth would pass for a number in ==, and what has another form can't be sorted.
    if not isinstance(thing, tuple) or not all([has_parcel_form(part) for part in thing]):
        return False
    return sorted(thing) == sorted(wanted)


def has_parcel_form(thing):
    """Tell of anything whether it is a tuple of two whole numbers and a fraction."""
    if not isinstance(thing, tuple) or len(thing) != 3:
        return False
    giver, taker, part = thing
    return is_whole(giver) and is_whole(taker) and is_fraction(part)


def hand_on(book):
    """Tell (weights, parcels) of a plain book."""
    weighing = [lowest(1, len(book)) for span in book]
    handed = []
    # One by one comes to the same as all of a time at once: no taker is cut off at its giver's time.
    for giver in givers(book):
        takers = later_ones(book, giver)
        part = product(weighing[giver], (1, len(takers)))
        weighing[giver] = NOUGHT
        for taker in takers:
            weighing[taker] = plus(weighing[taker], part)
            handed.append((giver, taker, part))
    return (weighing, handed)


def givers(book):
    """Tell the numbers of the cut-off spans that hand on, by their until and then by their number."""
    last = max([until for begin, until, end in book])
    cut = [(until, at) for at, (begin, until, end) in enumerate(book) if end == CUT_OFF and until < last]
    return [at for until, at in sorted(cut)]


def later_ones(book, giver):
    """Tell the numbers of the spans whose until is greater than the giver's, rising."""
    return [at for at, (begin, until, end) in enumerate(book) if until > book[giver][1]]
