"""The share that lasts beyond a time, by the product; its times, mean and spread; parts and their worth."""

from outlasts.books import check_book, check_time, last_upto, rows
from outlasts.errors import NoParts, NoShare
from outlasts.fractions import NOUGHT, WHOLE, is_less, is_part, lowest, minus, plus, power, product, product_of, total


def share_at(book, time):
    """Tell the share that lasts beyond a time."""
    check_book(book)
    check_time(time)
    return last_upto(shares(book), time, WHOLE)


def shares(book):
    """Tell the list of (time, share) for each row, the share beyond its time."""
    share = WHOLE
    told = []
    for row in rows(book):
        share = product(share, part_left(row))
        told.append((row[0], share))
    return told


def part_left(row):
    """Tell what part of those watched in a row didn't end then."""
    time, many, ends = row
    return lowest(many - sum(ends), many)


def check_share(share):
    """Refuse what is no fraction from 0 to 1."""
    if not is_part(share):
        raise NoShare()


def time_of(book, share):
    """Tell the least time of a row beyond which the share is not above this one, None where there is none."""
    check_book(book)
    check_share(share)
    for time, beyond in shares(book):
        if not is_less(share, beyond):
            return time
    return None


def mean_upto(book, time):
    """Tell the sum of the shares beyond all times from 0 on below this one."""
    check_book(book)
    check_time(time)
    mean = NOUGHT
    since, share = 0, WHOLE
    # The share stays the same from one row to the next, so each stretch is added at once.
    for at, beyond in shares(book):
        if at < time:
            mean = plus(mean, product(share, (at - since, 1)))
            since, share = at, beyond
    return plus(mean, product(share, (time - since, 1)))


def spread_at(book, time):
    """Tell the spread of the share beyond a time, None where in some row up to it all watched end."""
    share = share_at(book, time)
    # A product is 0 just where one of its parts is: where in some row none was left.
    if share == NOUGHT:
        return None
    terms = [spread_term(row) for row in rows(book) if row[0] <= time]
    return product(product(share, share), total(terms))


def spread_term(row):
    """Tell what a row in which some are left adds to the sum in the spread."""
    time, many, ends = row
    ended = sum(ends)
    return lowest(ended, many * (many - ended))


def are_parts(book, thing):
    """Tell of a book and of anything whether this is parts of it."""
    if not isinstance(thing, tuple) or len(thing) != len(rows(book)):
        return False
    return all([is_part(part) for part in thing])


def worth(book, parts):
    """Tell the worth of parts of a book."""
    check_book(book)
    if not are_parts(book, parts):
        raise NoParts()
    terms = []
    for (time, many, ends), part in zip(rows(book), parts):
        ended = sum(ends)
        terms.append(power(part, many - ended))
        terms.append(power(minus(WHOLE, part), ended))
    return product_of(terms)


def best_parts(book):
    """Tell the parts of a book of the greatest worth: in each row the part of its watched that didn't end."""
    return tuple([part_left(row) for row in rows(book)])
