"""Waves that are alike: by which turns one becomes another, and what parts them if none does.

A harmonic with the pair (p, q) is the complex number p - i q; a turn multiplies it by
the power of itself with the harmonic's number.
"""

from itertools import combinations
from math import gcd

from framecams.ratios import NOUGHT, ratio_negative, ratio_product
from framecams.stretches import zero_turn
from framecams.turns import EAST, back, in_order, join_turns, turn_times
from framecams.waves import BLANK, check_wave, harmonics_of, made_wave, mirrored, pair_at, pair_product

MIDDLE = "middle"
HARMONIC = "harmonic"
TURN = "turn"
# No other turns with fractions have a power that is (1, 0).
QUARTER_TURNS = (((1, 1), (0, 1)), ((0, 1), (1, 1)), ((-1, 1), (0, 1)), ((0, 1), (-1, 1)))


def are_alike(wave, other):
    """Whether some turn, with fractions or not, carries the one to the other."""
    return parting(wave, other) is None


def are_alike_moved(wave, other):
    """Whether the waves are alike without their harmonics 1."""
    check_wave(wave)
    check_wave(other)
    return are_alike(unmoved(wave), unmoved(other))


def unmoved(wave):
    """The wave without harmonic 1."""
    first, pairs = wave
    return made_wave(first, [BLANK] + list(pairs[1:]))


def are_mirror_alike(wave, other):
    """Whether the mirrored wave is alike to the other one."""
    check_wave(wave)
    check_wave(other)
    return are_alike(mirrored(wave), other)


def has_axis(wave):
    """Whether the wave is mirror alike to itself."""
    return are_mirror_alike(wave, wave)


def fold(wave):
    """The number of turns that carry the wave to itself, 0 if all do."""
    shared = 0
    for harmonic in harmonics_of(wave):
        shared = gcd(shared, harmonic)
    return shared


def parting(wave, other):
    """Why the waves are not alike; None if they are.

    If for each two of the harmonics some turn carries both, then one turn carries all: a
    product of powers of the harmonics' turns that has to be (1, 0) is made of such for two.
    """
    check_wave(wave)
    check_wave(other)
    if wave[0] != other[0]:
        return (MIDDLE,)
    for harmonic in range(1, max(len(wave[1]), len(other[1])) + 1):
        if length_square(pair_at(wave, harmonic)) != length_square(pair_at(other, harmonic)):
            return (HARMONIC, harmonic)
    steps = steps_between(wave, other)
    for one, two in combinations(steps, 2):
        if not have_one_turn(one, two):
            return (TURN, one[0], two[0])
    return None


def length_square(pair):
    """The square of the length of the harmonic's complex number."""
    return pair_product(pair, pair)


def steps_between(wave, other):
    """Each harmonic with the turn that multiplies it, ascending, where both have the same ones of the same lengths."""
    return [(j, step_between(pair_at(wave, j), pair_at(other, j))) for j in harmonics_of(wave)]


def step_between(pair, other):
    """The turn that multiplies the complex number of the pair to that of the other one, as long as it."""
    p, q = pair
    square = length_square(pair)
    share = (square[1], square[0])
    cosine = pair_product(pair, other)
    sine = pair_product((q, ratio_negative(p)), other)
    return (ratio_product(cosine, share), ratio_product(sine, share))


def have_one_turn(one, two):
    """Whether one turn, with fractions or not, has told turns as its powers with told numbers."""
    (i, step), (j, other) = one, two
    shared = gcd(i, j)
    return turn_times(step, j // shared) == turn_times(other, i // shared)


def carrying_turns(wave, other):
    """The turns with fractions that carry the wave to the other one, in order; None if all turns do."""
    if parting(wave, other) is not None:
        return ()
    steps = steps_between(wave, other)
    if len(steps) == 0:
        return None
    reached = (0, EAST)
    for step in steps:
        reached = shared_step(reached, step)
    return turns_with_power(reached[1], reached[0])


def shared_step(one, two):
    """The turn's power with the greatest common divisor of both numbers, by that turn's powers with both.

    Euclid's steps: what is done to the numbers is done to the turns.
    """
    while two[0] > 0:
        times = one[0] // two[0]
        rest = join_turns(one[1], turn_times(back(two[1]), times))
        one, two = two, (one[0] - times * two[0], rest)
    return one


def turns_with_power(power, number):
    """The turns with fractions of which this is the power with the number, from 1 to 8, in order."""
    c, s = power
    # The sine of the angle from the power told to the turn's own: 0 where both are the same, or opposite.
    beside = made_wave(NOUGHT, [BLANK] * (number - 1) + [(ratio_negative(s), c)])
    zero = zero_turn(beside)
    if zero is None:
        return ()
    # Two turns with fractions that have the same or opposite powers are a quarter turn apart, or some.
    around = [join_turns(zero, quarter) for quarter in QUARTER_TURNS]
    return in_order(tuple([turn for turn in around if turn_times(turn, number) == power]))
