"""Spans, books and times; who is watched at a time, and the rows of a book."""

from outlasts.errors import NoBook, NoKind, NoPlain, NoTime
from outlasts.fractions import is_whole

LAST_UNTIL = 999
LAST_TIME = 9999
MOST_SPANS = 40
CUT_OFF = 0
KINDS = (1, 2, 3, 4)


def is_span(thing):
    """Tell of anything whether it is a span."""
    if not isinstance(thing, tuple) or len(thing) != 3:
        return False
    begin, until, end = thing
    # A truth passes for 0 or 1 wherever numbers are compared, so it is turned away first.
    if not (is_whole(begin) and is_whole(until) and is_whole(end)):
        return False
    return 0 <= begin < until <= LAST_UNTIL and (end == CUT_OFF or end in KINDS)


def is_book(thing):
    """Tell of anything whether it is a book."""
    if not isinstance(thing, tuple) or not 1 <= len(thing) <= MOST_SPANS:
        return False
    return all([is_span(part) for part in thing])


def is_time(thing):
    """Tell of anything whether it is a time."""
    return is_whole(thing) and 0 <= thing <= LAST_TIME


def is_kind(thing):
    """Tell of anything whether it is a kind of end."""
    return is_whole(thing) and thing in KINDS


def check_book(book):
    """Refuse what is no book."""
    if not is_book(book):
        raise NoBook()


def is_plain(book):
    """Tell whether the begins of a book are all 0."""
    return all([begin == 0 for begin, until, end in book])


def check_plain(book):
    """Refuse what is no book, and then a book that isn't plain."""
    check_book(book)
    if not is_plain(book):
        raise NoPlain()


def check_time(time):
    """Refuse what is no time."""
    if not is_time(time):
        raise NoTime()


def check_kind(end):
    """Refuse what is no kind of end."""
    if not is_kind(end):
        raise NoKind()


def watched(book, time):
    """Tell how many spans of a book are watched at a time."""
    check_book(book)
    check_time(time)
    return count_watched(book, time)


def rows(book):
    """Tell the list of (time, watched, ends) for each time at which some end, rising."""
    check_book(book)
    return [(time, count_watched(book, time), count_ends(book, time)) for time in end_times(book)]


def count_watched(book, time):
    """Count the spans that are watched at a time: it is above their begin, not above their until."""
    return len([begin for begin, until, end in book if begin < time <= until])


def count_ends(book, time):
    """Tell the tuple of how many spans end at a time by each of the kinds."""
    ends = [end for begin, until, end in book if until == time]
    return tuple([ends.count(kind) for kind in KINDS])


def end_times(book):
    """Tell the times at which some end, each once, rising."""
    return sorted(set([until for begin, until, end in book if end != CUT_OFF]))


def last_upto(steps, time, ahead):
    """Tell what stands at the last time not above this one in a rising list of (time, worth), ahead where none is."""
    last = ahead
    for at, worth in steps:
        if at <= time:
            last = worth
    return last
