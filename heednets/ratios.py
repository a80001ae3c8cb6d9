"""Fractions: pairs (n, m) of whole numbers without a common divisor above 1, m above 0."""
from math import gcd, lcm


def is_whole(value):
    # To Python True and False are numbers, too; here they are not.
    return isinstance(value, int) and not isinstance(value, bool)


def is_fraction(value):
    if not isinstance(value, tuple) or len(value) != 2:
        return False
    above, below = value
    return is_whole(above) and is_whole(below) and below > 0 and gcd(above, below) == 1


def are_fractions(value, many):
    """Whether a value is a row of so many fractions."""
    if not isinstance(value, tuple) or len(value) != many:
        return False
    return all(is_fraction(part) for part in value)


def ratio(above, below):
    """The fraction above / below, of whole numbers, the second one above 0."""
    shared = gcd(above, below)
    return (above // shared, below // shared)


def opposite(fraction):
    return (-fraction[0], fraction[1])


def is_above(fraction, other):
    return fraction[0] * other[1] > other[0] * fraction[1]


def as_wholes(fractions):
    """The fractions, all times one number above 0 that makes them whole; and this number."""
    times = 1
    for _, below in fractions:
        times = lcm(times, below)
    return [above * (times // below) for above, below in fractions], times


def sum_of(fractions):
    wholes, times = as_wholes(fractions)
    return ratio(sum(wholes), times)


def mean_of(fractions):
    wholes, times = as_wholes(fractions)
    return ratio(sum(wholes), times * len(wholes))


def least_of(fractions):
    wholes, times = as_wholes(fractions)
    return ratio(min(wholes), times)


def product_of(fractions):
    above, below = 1, 1
    for part in fractions:
        above *= part[0]
        below *= part[1]
    return ratio(above, below)
