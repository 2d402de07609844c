"""All dealings of marks: which scores they have, how many go as far as the marks, and which goes farthest."""

from outlasts.books import check_book
from outlasts.errors import TooMany
from outlasts.fractions import lowest, over_one_bottom
from outlasts.lots import BY_ONE, check_marks, check_weighting, lot_one, pulls

MOST_DEALT = 12


def dealings(book, marks, weighting=BY_ONE):
    """Tell the list of (score, how many dealings have it), rising by the scores."""
    check_dealt(book, marks, weighting)
    tops, bottom = over_one_bottom(pulls(book, weighting))
    counts = {}
    for dealing in all_dealings(marks):
        top = sum(lot_one(tops, dealing))
        counts[top] = counts.get(top, 0) + 1
    return [(lowest(top, bottom), counts[top]) for top in sorted(counts)]


def as_far(book, marks, weighting=BY_ONE):
    """Tell (many, all): how many dealings have a score of no less size than the marks', and how many there are."""
    check_dealt(book, marks, weighting)
    tops, bottom = over_one_bottom(pulls(book, weighting))
    size = abs(sum(lot_one(tops, marks)))
    sizes = [abs(sum(lot_one(tops, dealing))) for dealing in all_dealings(marks)]
    return (len([other for other in sizes if other >= size]), len(sizes))


def farthest(book, marks, weighting=BY_ONE):
    """Tell the first dealing, as tuples compare, of the greatest score."""
    check_dealt(book, marks, weighting)
    tops, bottom = over_one_bottom(pulls(book, weighting))
    dealt = all_dealings(marks)
    found = dealt[0]
    greatest = sum(lot_one(tops, found))
    for dealing in dealt:
        top = sum(lot_one(tops, dealing))
        if top > greatest:
            greatest, found = top, dealing
    return found


def check_dealt(book, marks, weighting):
    """Refuse what is no book, one of too many spans, what is no marks of it, and what is no weighting."""
    check_book(book)
    if len(book) > MOST_DEALT:
        raise TooMany(len(book), MOST_DEALT)
    check_marks(book, marks)
    check_weighting(weighting)


def all_dealings(marks):
    """Tell the list of all marks with as many 1, rising as tuples compare."""
    many, ones = len(marks), sum(marks)
    dealt = [()]
    # Mark by mark, 0 ahead of 1: so the list rises at each step, and no beginning is kept that can't be finished.
    for place in range(many):
        longer = [(*start, mark) for start in dealt for mark in (0, 1)]
        dealt = [start for start in longer if sum(start) <= ones <= sum(start) + many - len(start)]
    return dealt
