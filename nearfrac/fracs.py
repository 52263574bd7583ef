"""Fractions: tuples of an upper and a lower part, in lowest parts."""

from math import gcd

from nearfrac.errors import NoFraction


def is_whole(thing):
    """Tell whether a value is a whole number."""
    # True and False are integers to Python, but no whole numbers here.
    return isinstance(thing, int) and not isinstance(thing, bool)


def lowest(upper, lower):
    """Give the fraction that an upper and a lower number stand for."""
    if not is_whole(upper) or not is_whole(lower):
        raise NoFraction("both parts must be whole numbers")
    if upper < 0:
        raise NoFraction("the upper part must not be below 0")
    if lower < 1:
        raise NoFraction("the lower part must not be below 1")
    shared = gcd(upper, lower)
    return upper // shared, lower // shared


def less(one, other):
    """Tell whether one fraction is less than another one."""
    return one[0] * other[1] < other[0] * one[1]


def apart(one, other):
    """Give how far two fractions lie apart, as a fraction."""
    return lowest(gap(one, other), one[1] * other[1])


def gap(one, other):
    """Give how far two fractions lie apart, times both lower parts."""
    return abs(one[0] * other[1] - other[0] * one[1])
