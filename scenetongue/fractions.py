"""Fractions: tuples (above, below) of whole numbers in lowest terms, below 1 or more."""


def frac(above, below):
    """The fraction of two whole numbers, below not 0."""
    # A remainder has the sign of what it is divided by, so shared keeps the sign of below,
    # and what is left of below is above 0.
    shared, rest = below, above % below
    while rest:
        shared, rest = rest, shared % rest
    return (above // shared, below // shared)


def plus(one, other):
    """The sum of two fractions."""
    return frac(one[0] * other[1] + other[0] * one[1], one[1] * other[1])


def minus(one, other):
    """The first fraction less the second."""
    return frac(one[0] * other[1] - other[0] * one[1], one[1] * other[1])


def times(one, other):
    """The product of two fractions."""
    return frac(one[0] * other[0], one[1] * other[1])


def over(one, other):
    """The first fraction by the second, which isn't nought."""
    return frac(one[0] * other[1], one[1] * other[0])


def sign(one):
    """-1, 0 or 1, as the fraction is below, at or above nought."""
    if one[0] < 0:
        return -1
    if one[0] > 0:
        return 1
    return 0


def dot(one, other):
    """The sum of the products of two points' fractions, place by place."""
    above, below = 0, 1
    # Lowest terms are costly, so they are sought once, of the whole sum.
    for mine, yours in zip(one, other):
        part = mine[1] * yours[1]
        above = above * part + mine[0] * yours[0] * below
        below = below * part
    return frac(above, below)


def is_whole(thing):
    """Whether anything is a whole number."""
    return isinstance(thing, int) and not isinstance(thing, bool)


def is_fraction(thing):
    """Whether anything is a fraction."""
    if not isinstance(thing, tuple) or len(thing) != 2:
        return False
    above, below = thing
    if not is_whole(above) or not is_whole(below) or below < 1:
        return False
    return frac(above, below) == (above, below)
