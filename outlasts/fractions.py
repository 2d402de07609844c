"""Reckoning with fractions: tuples (top, bottom) in lowest terms, bottom above 0.

Plain tuples are what the program tells, so nothing has to be turned on the way in or out.
"""

NOUGHT = (0, 1)
WHOLE = (1, 1)


def is_whole(thing):
    """Tell of anything whether it is a whole number: an int that is no truth."""
    return isinstance(thing, int) and not isinstance(thing, bool)


def is_fraction(thing):
    """Tell of anything whether it is a fraction."""
    if not isinstance(thing, tuple) or len(thing) != 2:
        return False
    top, bottom = thing
    if not is_whole(top) or not is_whole(bottom):
        return False
    return bottom > 0 and common_divisor(top, bottom) == 1


def is_part(thing):
    """Tell of anything whether it is a fraction from 0 to 1."""
    return is_fraction(thing) and 0 <= thing[0] <= thing[1]


def common_divisor(one, other):
    """Tell the greatest common divisor of two whole numbers, 0 where both are 0."""
    divisor, rest = abs(one), abs(other)
    while rest != 0:
        divisor, rest = rest, divisor % rest
    return divisor


def lowest(top, bottom):
    """Tell top divided by bottom, two whole numbers, as a fraction."""
    # Without this a bottom of 0 would come out as (1, 0), which looks like a fraction.
    if bottom == 0:
        raise ZeroDivisionError("a fraction with bottom 0")
    divisor = common_divisor(top, bottom)
    if bottom < 0:
        divisor = -divisor
    return (top // divisor, bottom // divisor)


def plus(one, other):
    """Tell the sum of two fractions."""
    return lowest(one[0] * other[1] + other[0] * one[1], one[1] * other[1])


def minus(one, other):
    """Tell the first fraction less the second."""
    return lowest(one[0] * other[1] - other[0] * one[1], one[1] * other[1])


def product(one, other):
    """Tell the product of two fractions."""
    return lowest(one[0] * other[0], one[1] * other[1])


def quotient(one, other):
    """Tell the first fraction divided by the second, which is not 0."""
    return lowest(one[0] * other[1], one[1] * other[0])


def power(fraction, often):
    """Tell the product of a fraction as often as told, 1 for no times."""
    # A fraction in lowest terms stays so when it is multiplied by itself, so there is nothing to divide out.
    top, bottom = WHOLE
    for step in range(often):
        top, bottom = top * fraction[0], bottom * fraction[1]
    return (top, bottom)


def total(terms):
    """Tell the sum of a list of fractions, 0 of none."""
    worth = NOUGHT
    for term in terms:
        worth = plus(worth, term)
    return worth


def product_of(terms):
    """Tell the product of a list of fractions, 1 of none."""
    top, bottom = WHOLE
    for term in terms:
        top, bottom = top * term[0], bottom * term[1]
    # Once at the end: dividing out is what takes long where the terms are many and big.
    return lowest(top, bottom)


def is_less(one, other):
    """Tell whether the first fraction is less than the second."""
    return one[0] * other[1] < other[0] * one[1]


def over_one_bottom(terms):
    """Tell (tops, bottom) of a list of fractions: the tops that they have over one bottom."""
    bottom = 1
    for term in terms:
        bottom = bottom // common_divisor(bottom, term[1]) * term[1]
    return ([top * (bottom // part) for top, part in terms], bottom)
