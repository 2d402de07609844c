"""Two lots of a book held against one another: what was seen and what was due of lot 1, the score and its spread."""

from outlasts.books import CUT_OFF, check_book, count_watched, rows
from outlasts.errors import NoMarks, NoWord
from outlasts.fractions import NOUGHT, WHOLE, is_whole, lowest, minus, plus, product, total
from outlasts.shares import shares

BY_ONE = "one"
BY_MANY = "many"
BY_SHARE = "share"


def is_mark(thing):
    """Tell of anything whether it is a mark: 0 or 1, no truth."""
    return is_whole(thing) and 0 <= thing <= 1


def are_marks(book, thing):
    """Tell of a book and of anything whether this is marks of it."""
    if not isinstance(thing, tuple) or len(thing) != len(book):
        return False
    return all([is_mark(mark) for mark in thing]) and 0 in thing and 1 in thing


def check_marks(book, marks):
    """Refuse what is no marks of a book."""
    if not are_marks(book, marks):
        raise NoMarks()


def check_weighting(weighting):
    """Refuse what is no weighting."""
    if not isinstance(weighting, str) or weighting not in (BY_ONE, BY_MANY, BY_SHARE):
        raise NoWord()


def due(book, marks):
    """Tell (seen, due): all ends of lot 1, and all that are due of it."""
    check_book(book)
    check_marks(book, marks)
    lot = lot_one(book, marks)
    seen = len([end for begin, until, end in lot if end != CUT_OFF])
    terms = [lowest(sum(ends) * count_watched(lot, time), many) for time, many, ends in rows(book)]
    return (seen, total(terms))


def score(book, marks, weighting=BY_ONE):
    """Tell the sum over all rows of the weight times (the ends of lot 1 less those due)."""
    check_book(book)
    check_marks(book, marks)
    check_weighting(weighting)
    return total(lot_one(pulls(book, weighting), marks))


def spread(book, marks, weighting=BY_ONE):
    """Tell the spread of the score."""
    check_book(book)
    check_marks(book, marks)
    check_weighting(weighting)
    lot = lot_one(book, marks)
    spread_so_far = NOUGHT
    for row, weight in zip(rows(book), row_weights(book, weighting)):
        term = spread_of_row(row, count_watched(lot, row[0]))
        spread_so_far = plus(spread_so_far, product(product(weight, weight), term))
    return spread_so_far


def spread_of_row(row, of_lot):
    """Tell what a row in which so many of lot 1 are watched adds to the spread by the weight 1."""
    time, many, ends = row
    # Where one alone is watched the bottom would be 0.
    if many == 1:
        return NOUGHT
    ended = sum(ends)
    return lowest(ended * of_lot * (many - of_lot) * (many - ended), many * many * (many - 1))


def lot_one(parts, marks):
    """Tell the list of those parts, one for each span, whose mark is 1."""
    return [part for part, mark in zip(parts, marks) if mark == 1]


def row_weights(book, weighting):
    """Tell the list of what each row of a book weighs."""
    if weighting == BY_ONE:
        return [WHOLE for row in rows(book)]
    if weighting == BY_MANY:
        return [(many, 1) for time, many, ends in rows(book)]
    # Between two rows the share stays, so just below a row it is the one beyond the row ahead.
    beyond = [share for time, share in shares(book)]
    return ([WHOLE] + beyond)[:-1]


def pulls(book, weighting):
    """Tell the list of what each span adds to the score where it is of lot 1."""
    # The score is the sum of these over lot 1, so all dealings of a book go by the same ones.
    weighed = [(time, lowest(sum(ends), many), weight)
               for (time, many, ends), weight in zip(rows(book), row_weights(book, weighting))]
    return [pull(span, weighed) for span in book]


def pull(span, weighed):
    """Tell what a span adds to the score, of a list of (time, rate, weight) for each row."""
    begin, until, end = span
    pull_so_far = NOUGHT
    for time, rate, weight in weighed:
        if begin < time <= until:
            ended = WHOLE if until == time and end != CUT_OFF else NOUGHT
            pull_so_far = plus(pull_so_far, product(weight, minus(ended, rate)))
    return pull_so_far
