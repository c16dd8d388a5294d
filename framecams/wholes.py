"""Waves over one denominator: with whole numbers, their products and polynomials.

The waves here may have more harmonics than a wave that is passed.
"""

from math import comb, lcm

from framecams.ratios import ratio
from framecams.waves import made_wave


def common_size(waves):
    """The least whole number above 0 that makes all numbers of a list of waves whole."""
    size = 1
    for first, pairs in waves:
        size = lcm(size, first[1])
        for p, q in pairs:
            size = lcm(lcm(size, p[1]), q[1])
    return size


def whole_wave(wave, size):
    """K0 and the list of the pairs, all times the size, which makes them whole."""
    first, pairs = wave
    whole = [(p[0] * (size // p[1]), q[0] * (size // q[1])) for p, q in pairs]
    return (first[0] * (size // first[1]), whole)


def half_row(whole, quarter):
    """The polynomial of a whole wave in the rest of its turns in the quarter.

    It is (1 + x * x) to the power m times the worth, for m pairs. Behind the begin of
    the quarter p * cos + q * sin of j times the angle takes the numbers p, q, -p, -q by
    turns, beginning one further with each quarter of j times the angle. Ahead of x ** k in
    (1 + i x) ** (2 j) they do so with each k: that is (1 + x * x) ** j times cos + i sin.
    """
    row, pairs = [whole[0]], whole[1]
    for j, (p, q) in enumerate(pairs, start=1):
        signed = (p, q, -p, -q)
        # What was found for the harmonics below takes one more factor 1 + x * x.
        grown = [one + other for one, other in zip(row + [0, 0], [0, 0] + row)]
        row = [number + comb(2 * j, k) * signed[(k + j * quarter) & 3] for k, number in enumerate(grown)]
    return row


def wave_product(wave, other):
    """The wave that is at each turn worth what both are worth, multiplied."""
    one, two = both_sides(wave), both_sides(other)
    total = [(0, 0)] * (len(one) + len(two) - 1)
    for at, (a, b) in enumerate(one):
        for to, (c, d) in enumerate(two):
            re, im = total[at + to]
            total[at + to] = (re + a * c - b * d, im + a * d + b * c)
    size = common_size([wave]) * common_size([other])
    middle = len(total) // 2
    pairs = [(ratio(re, 2 * size), ratio(-im, 2 * size)) for re, im in total[middle + 1:]]
    return made_wave(ratio(total[middle][0], 4 * size), pairs)


def both_sides(wave):
    """The complex numbers ahead of the powers of cos + i sin, the least power first, doubled and made whole.

    They are p - i q for harmonic j, for -j they are p + i q, for 0 twice K0.
    """
    first, pairs = whole_wave(wave, common_size([wave]))
    before = [(p, q) for p, q in reversed(pairs)]
    return before + [(2 * first, 0)] + [(p, -q) for p, q in pairs]
