"""Whole numbers and fractions: pairs (n, m), reduced, m above 0."""

from math import gcd

from framecams.errors import HighBelowLow, InvalidFraction, InvalidNumber

NOUGHT = (0, 1)
ONE = (1, 1)
FINEST = 10 ** 12


def is_whole(value):
    """Whether the value is an int other than True and False."""
    return isinstance(value, int) and not isinstance(value, bool)


def is_whole_within(value, least, most):
    """Whether the value is a whole number from the least one up to the most one."""
    return is_whole(value) and least <= value <= most


def is_fraction(value):
    """Whether the value is a fraction, whatever it is."""
    if not isinstance(value, tuple) or len(value) != 2:
        return False
    n, m = value
    return is_whole(n) and is_whole(m) and m > 0 and gcd(n, m) == 1


def is_fraction_pair(value):
    """Whether the value is a pair of fractions, whatever it is."""
    if not isinstance(value, tuple) or len(value) != 2:
        return False
    return is_fraction(value[0]) and is_fraction(value[1])


def check_fraction(fraction):
    """Raise InvalidFraction for what is no fraction."""
    if not is_fraction(fraction):
        raise InvalidFraction(fraction)


def is_fraction_above(value):
    """Whether the value is a fraction above 0, whatever it is."""
    return is_fraction(value) and value[0] > 0


def is_fraction_from_0(value):
    """Whether the value is a fraction from 0 on, whatever it is."""
    return is_fraction(value) and value[0] >= 0


def check_number(number, least, most):
    """Raise InvalidNumber for what is no whole number from the least one up to the most one."""
    if not is_whole_within(number, least, most):
        raise InvalidNumber(number)


def check_many(many):
    """Raise InvalidNumber for what is no fineness."""
    check_number(many, 1, FINEST)


def check_bounds(low, high):
    """Raise InvalidFraction for what is no fraction, HighBelowLow for a high one below the low one."""
    check_fraction(low)
    check_fraction(high)
    if is_below(high, low):
        raise HighBelowLow(high)


def is_below(one, other):
    """Whether the first fraction is below the second one."""
    return one[0] * other[1] < other[0] * one[1]


def are_bounds(low, high):
    """Whether both values, whatever they are, are fractions, and the high one is not below the low one."""
    return is_fraction(low) and is_fraction(high) and not is_below(high, low)


def ratio(n, m):
    """The fraction n / m, for whole numbers with m above 0."""
    shared = gcd(n, m)
    return (n // shared, m // shared)


def ratio_sum(one, other):
    """The first fraction plus the second one."""
    return ratio(one[0] * other[1] + other[0] * one[1], one[1] * other[1])


def ratio_product(one, other):
    """The first fraction times the second one."""
    return ratio(one[0] * other[0], one[1] * other[1])


def ratio_times(fraction, whole):
    """The fraction times a whole number."""
    return ratio(fraction[0] * whole, fraction[1])


def ratio_negative(fraction):
    """0 less the fraction."""
    return (-fraction[0], fraction[1])
