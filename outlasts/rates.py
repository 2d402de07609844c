"""Sums of rates: of those watched in each row, what part ended, added up."""

from outlasts.books import check_book, check_time, last_upto, rows
from outlasts.fractions import NOUGHT, lowest, plus


def rates(book):
    """Tell the list of (time, sum) for each row, the sum of the rates of all rows up to it."""
    so_far = NOUGHT
    told = []
    for time, many, ends in rows(book):
        so_far = plus(so_far, lowest(sum(ends), many))
        told.append((time, so_far))
    return told


def rate_at(book, time):
    """Tell the sum of the rates of all rows up to a time."""
    check_book(book)
    check_time(time)
    return last_upto(rates(book), time, NOUGHT)
