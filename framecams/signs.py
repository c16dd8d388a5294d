"""Signs of waves: at all turns at once, behind each zero, and how low and high they go."""

from framecams.errors import InvalidIndex
from framecams.leasts import greatest_near_of, least_near_of
from framecams.ratios import check_many, check_number, is_whole_within
from framecams.stretches import NOUGHT_WAVE, count_zeros, is_always_above, is_never_below, signs_of, turn_with
from framecams.stretches import zeros_in_order
from framecams.waves import check_wave

ALL = "all"


def never_below(wave):
    """Whether the wave is below 0 at no turn, told by fractions or not."""
    check_wave(wave)
    return is_never_below(wave)


def always_above(wave):
    """Whether the wave is above 0 at all turns, told by fractions or not."""
    check_wave(wave)
    return is_always_above(wave)


def turn_where(wave, sign):
    """Any turn, told by fractions, at which the wave has the sign; None."""
    check_wave(wave)
    check_number(sign, -1, 1)
    return turn_with(wave, sign)


def zeros_of(wave):
    """The number of the wave's zeros, ALL for the nought wave."""
    check_wave(wave)
    return ALL if wave == NOUGHT_WAVE else count_zeros(wave)


def row_of(wave):
    """The signs behind the zeros, the sign alone if there are none, (0,) for the nought wave."""
    check_wave(wave)
    return signs_of(wave)


def zero_near(wave, index, many):
    """The triple (QUARTER, n, IS_JUST) of the zero with this index."""
    check_wave(wave)
    zeros = [] if wave == NOUGHT_WAVE else zeros_in_order(wave)
    if not is_whole_within(index, 0, len(zeros) - 1):
        raise InvalidIndex(index)
    check_many(many)
    zero = zeros[index]
    n = zero.near(many)
    return (zero.quarter, n, zero.is_just(n, many))


def least_near(wave, many):
    """The least worth of the wave, near."""
    check_wave(wave)
    check_many(many)
    return least_near_of(wave, many)


def greatest_near(wave, many):
    """The greatest worth of the wave, near."""
    check_wave(wave)
    check_many(many)
    return greatest_near_of(wave, many)
