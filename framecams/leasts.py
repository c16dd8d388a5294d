"""Least and greatest worths of waves, and of one wave over another, told near.

The waves here may have more harmonics than a wave that is passed.
"""

from framecams.polynomials import scaled_worth
from framecams.ratios import ONE, ratio
from framecams.stretches import NOUGHT_WAVE, count_zeros, place_where, zeros_in_order
from framecams.waves import growth_of, wave_less, wave_times
from framecams.wholes import common_size, half_row, wave_product, whole_wave

UNIT_WAVE = (ONE, ())


def least_near_of(wave, many):
    """The least worth of the wave, near."""
    return least_share_near(wave, UNIT_WAVE, many)


def greatest_near_of(wave, many):
    """The greatest worth of the wave, near."""
    return greatest_share_near(wave, UNIT_WAVE, many)


def least_share_near(wave, other, many):
    """The least worth of the wave over the other one, which is above 0 at all turns, near."""
    n = last_held(wave, other, many)
    return (n, count_zeros(rest_of(wave, other, n, many)) != 0)


def greatest_share_near(wave, other, many):
    """The greatest worth of the wave over the other one, which is above 0 at all turns, near."""
    n, is_just = least_share_near(wave_times(wave, (-1, 1)), other, many)
    return (-n, True) if is_just else (-n - 1, False)


def rest_of(wave, other, n, many):
    """The wave less n / many times the other one."""
    return wave_less(wave, wave_times(other, ratio(n, many)))


def last_held(wave, other, many):
    """The greatest whole number n such that the wave less n / many times the other one is nowhere below 0.

    There has to be one, so: the wave over the other one, at the turns at which this is
    above 0, has a least worth, at a turn at which it does not grow. Near to such turns n is
    guessed. A guess is never too low; where it is too high, some place tells so, and a
    lower guess with it.
    """
    parts = wave_product(growth_of(wave), other)
    slope = wave_less(parts, wave_product(wave, growth_of(other)))
    zeros = [] if slope == NOUGHT_WAVE else zeros_in_order(slope)
    # Beside its least a worth grows by the square: so half of the figures do.
    bits = (many * height_of(wave)).bit_length() // 2 + 8
    telling = place_where(other, 1)
    while telling is not None:
        places = [telling]
        for zero in zeros:
            places += zero.places(1 << bits)
        n = least_guess(wave, other, many, places)
        telling = place_where(rest_of(wave, other, n, many), -1)
        bits = 2 * bits
    return n


def height_of(wave):
    """A whole number above each number of the wave and its opposite."""
    first, pairs = wave
    numbers = [first] + [number for pair in pairs for number in pair]
    return 1 + max([abs(n) // m for n, m in numbers])


def least_guess(wave, other, many, places):
    """The least whole part of the wave times `many` over the other one, where this is above 0 among the places."""
    size = common_size([wave, other])
    most = max(len(wave[1]), len(other[1]))
    above, below = [padded(whole_wave(told, size), most) for told in (wave, other)]
    found = []
    for quarter in range(4):
        rows = (half_row(above, quarter), half_row(below, quarter))
        for _, n, m in [place for place in places if place[0] == quarter]:
            over, under = scaled_worth(rows[0], n, m), scaled_worth(rows[1], n, m)
            if under > 0:
                found.append(over * many // under)
    return min(found)


def padded(whole, most):
    """A whole wave with as many pairs as told."""
    first, pairs = whole
    return (first, pairs + [(0, 0)] * (most - len(pairs)))
