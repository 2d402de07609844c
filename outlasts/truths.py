"""Whatever the hidden is: truths of a plain book, and whether one book outlasts another one by them."""

from outlasts.books import CUT_OFF, check_plain, check_time, is_kind, is_time
from outlasts.fractions import is_less, is_whole, lowest

LAST_TRUE_UNTIL = 2000
TRUE_KIND = 1


def is_truth(book, thing):
    """Tell of a plain book and of anything whether this is a truth of it."""
    check_plain(book)
    if not isinstance(thing, tuple) or len(thing) != len(book):
        return False
    return all([may_stand_for(span, part) for span, part in zip(book, thing)])


def may_stand_for(span, thing):
    """Tell of anything whether it may stand in a truth in the place of a span of a plain book."""
    if not isinstance(thing, tuple) or len(thing) != 3:
        return False
    begin, until, end = thing
    # A truth passes for 0 or 1 wherever numbers are compared, so it is turned away first.
    if not (is_whole(begin) and is_whole(until) and is_whole(end)):
        return False
    if span[2] != CUT_OFF:
        return thing == span
    return begin == 0 and span[1] < until <= LAST_TRUE_UNTIL and is_kind(end)


def soonest(book):
    """Tell the truth of a plain book in which each one that was cut off ends by kind 1 one later."""
    check_plain(book)
    return tuple([(0, until + 1, TRUE_KIND) if end == CUT_OFF else (begin, until, end) for begin, until, end in book])


def latest(book):
    """Tell the truth of a plain book in which each one that was cut off ends by kind 1 as late as may be."""
    check_plain(book)
    return tuple([(0, LAST_TRUE_UNTIL, TRUE_KIND) if end == CUT_OFF else (begin, until, end)
                  for begin, until, end in book])


def bounds(book, time):
    """Tell (least, greatest), the shares beyond a time of all truths of a plain book."""
    check_plain(book)
    check_time(time)
    return (true_share(soonest(book), time), true_share(latest(book), time))


def true_share(truth, time):
    """Tell the share beyond a time by a truth: that part of its spans whose until is greater."""
    return lowest(len([until for begin, until, end in truth if until > time]), len(truth))


def is_below(one, other, time):
    """Tell of two truths whether the first one's share beyond a time is less."""
    return is_less(true_share(one, time), true_share(other, time))


def first_below(one, other):
    """Tell of two truths the least time at which the first one's share is less, None where there is none."""
    # The share of the first one becomes less than another only where it falls, at one of its untils.
    for time in sorted([until for begin, until, end in one]):
        if is_below(one, other, time):
            return time
    return None


def is_never_below(one, other):
    """Tell of two truths whether the first one outlasts the other: at each time its share is not less."""
    return first_below(one, other) is None


def may_outlast(one, other):
    """Tell ("may", truth, truth) where the first book may outlast the other one, else ("never", time)."""
    check_plain(one)
    check_plain(other)
    # The latest truth has at each time the greatest share of all, the soonest one the least.
    late, soon = latest(one), soonest(other)
    time = first_below(late, soon)
    if time is None:
        return ("may", late, soon)
    return ("never", time)


def must_outlast(one, other):
    """Tell ("must",) where the first book outlasts the other one by all truths, else ("not", truth, truth, time)."""
    check_plain(one)
    check_plain(other)
    soon, late = soonest(one), latest(other)
    time = first_below(soon, late)
    if time is None:
        return ("must",)
    return ("not", soon, late, time)


def are_truths(one, other, thing):
    """Tell of two plain books and of anything whether this is a tuple of a truth of each."""
    if not isinstance(thing, tuple) or len(thing) != 2:
        return False
    return is_truth(one, thing[0]) and is_truth(other, thing[1])


def shows_may(one, other, thing):
    """Tell of anything whether it shows that the first book may outlast the other one."""
    check_plain(one)
    check_plain(other)
    return are_truths(one, other, thing) and is_never_below(thing[0], thing[1])


def shows_never(one, other, thing):
    """Tell of anything whether it is a time that shows that the first book never outlasts the other one."""
    check_plain(one)
    check_plain(other)
    return is_time(thing) and is_below(latest(one), soonest(other), thing)


def shows_not(one, other, thing):
    """Tell of anything whether it shows that the first book needn't outlast the other one."""
    check_plain(one)
    check_plain(other)
    return are_truths(one, other, thing) and not is_never_below(thing[0], thing[1])
