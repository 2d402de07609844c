"""Kinds of end: what came by each of them, and books in which only one kind is left."""

from outlasts.books import CUT_OFF, check_book, check_kind, check_time, last_upto, rows
from outlasts.fractions import NOUGHT, WHOLE, lowest, plus, product
from outlasts.shares import shares

ONE_KIND = 1


def came(book, end):
    """Tell the list of (time, what came) for each row, what came by a kind of end up to its time."""
    check_book(book)
    check_kind(end)
    so_far = NOUGHT
    share_ahead = WHOLE
    told = []
    for (time, many, ends), (same_time, share) in zip(rows(book), shares(book)):
        so_far = plus(so_far, product(share_ahead, lowest(ends[end - 1], many)))
        told.append((time, so_far))
        share_ahead = share
    return told


def came_at(book, end, time):
    """Tell what came by a kind of end up to a time."""
    check_book(book)
    check_kind(end)
    check_time(time)
    return last_upto(came(book, end), time, NOUGHT)


def alone(book, end):
    """Tell the book in which only ends of one kind stay, all others being cut off then."""
    check_book(book)
    check_kind(end)
    return tuple([(begin, until, kind if kind == end else CUT_OFF) for begin, until, kind in book])


def one_kind(book):
    """Tell the book in which all ends are of kind 1, those cut off staying so."""
    check_book(book)
    return tuple([(begin, until, CUT_OFF if kind == CUT_OFF else ONE_KIND) for begin, until, kind in book])
