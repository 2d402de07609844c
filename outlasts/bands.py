"""Bands: how sure it is that what a share ends by lies between two untils of a full book."""

from outlasts.books import CUT_OFF, MOST_SPANS, check_book, is_plain
from outlasts.errors import NoBand, NoFull, NoNumber, NoShare
from outlasts.fractions import WHOLE, is_fraction, is_whole, lowest, minus, power
from outlasts.shares import check_share


def sureness(many, share, i, j):
    """Tell the sureness of a band (i, j) of so many untils."""
    if not is_whole(many) or not 1 <= many <= MOST_SPANS:
        raise NoNumber()
    check_inner_share(share)
    if not is_whole(i) or not is_whole(j) or not 1 <= i < j <= many:
        raise NoBand()
    tops, bottom = chances(many, share)
    return lowest(sum(tops[i:j]), bottom)


def band(book, share, sure):
    """Tell (from, to, i, j) of the narrowest band that is at least so sure, None where there is none."""
    check_full(book)
    check_inner_share(share)
    check_share(sure)
    many = len(book)
    untils = sorted([until for begin, until, end in book])
    tops, bottom = chances(many, share)
    for width in range(1, many):
        for low in range(1, many - width + 1):
            high = low + width
            if sum(tops[low:high]) * sure[1] >= sure[0] * bottom:
                return (untils[low - 1], untils[high - 1], low, high)
    return None


def check_full(book):
    """Refuse what is no book, and then a book that isn't plain or in which some are cut off."""
    check_book(book)
    if not is_plain(book) or any([end == CUT_OFF for begin, until, end in book]):
        raise NoFull()


def check_inner_share(share):
    """Refuse what is no fraction above 0 and below 1."""
    if not is_fraction(share) or not 0 < share[0] < share[1]:
        raise NoShare()


def chances(many, share):
    """Tell (tops, bottom): for each k from 0 to many the top, over one bottom, of how likely just k of them are."""
    # One bottom for all: dividing out at each k and each band is what would take long.
    others = minus(WHOLE, share)
    tops = [choices(many, k) * power(share, k)[0] * power(others, many - k)[0] for k in range(many + 1)]
    return (tops, power(share, many)[1])


def choices(many, chosen):
    """Tell how many choices of so many of all there are."""
    ways = 1
    # Each step's product is itself a count of choices times step + 1, so nothing is lost by dividing.
    for step in range(chosen):
        ways = ways * (many - step) // (step + 1)
    return ways
