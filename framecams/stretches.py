"""The zeros of a wave, told by fractions or not, and the stretches between them.

The waves here may have more harmonics than a wave that is passed. A place is a
quarter with a fraction, not reduced, from 0 up to 1: (quarter, n, m) is the turn with
the half tangent n / m behind the begin of the quarter.
"""

from framecams.polynomials import scaled_worth, sign_of, single_factors
from framecams.ratios import NOUGHT, ratio
from framecams.roots import fraction_root, root_near, roots_within
from framecams.turns import EAST, WEST, turn_of
from framecams.wholes import common_size, half_row, whole_wave

NOUGHT_WAVE = (NOUGHT, ())
EAST_PLACE = (0, 0, 1)


class Zero:
    """A zero of a wave, by its quarter and the triple for its rest, a root of the row."""

    def __init__(self, quarter, row, triple):
        self.quarter = quarter
        self.row = row
        self.triple = triple

    def near(self, many):
        """The greatest whole number n such that n / many is not above its rest."""
        return root_near(self.row, self.triple, many)

    def is_just(self, n, many):
        """Whether the number that is near for `many` is just its rest."""
        low, high, size = self.triple
        if low == high:
            return n * size == low * many
        # Below the stretch that it lies in there may be another zero.
        return low * many < n * size and scaled_worth(self.row, n, many) == 0

    def places(self, many):
        """Two places, at most one of `many` parts of a quarter's rests apart, with the zero from one to the other."""
        n = self.near(many)
        return [(self.quarter, n, many), (self.quarter, n + 1, many)]


def turn_at(place):
    """The turn at the place."""
    quarter, n, m = place
    whole = m * m + n * n
    c, s = m * m - n * n, 2 * n * m
    sides = ((c, s), (-s, c), (-c, -s), (s, -c))
    x, y = sides[quarter]
    return (ratio(x, whole), ratio(y, whole))


def quarter_rows(wave):
    """The four polynomials of the wave."""
    whole = whole_wave(wave, common_size([wave]))
    return [half_row(whole, quarter) for quarter in range(4)]


def zeros_in_order(wave):
    """The list of the zeros of the wave, which is not the nought wave."""
    found = []
    for quarter, worths in enumerate(quarter_rows(wave)):
        row = single_factors(worths)
        found += [Zero(quarter, row, triple) for triple in roots_within(row)]
    return found


def places_behind(zeros):
    """For each zero a place behind it, ahead of the next one."""
    found = []
    for at, zero in enumerate(zeros):
        _, high, size = zero.triple
        low, other = 1, 1
        if at + 1 < len(zeros) and zeros[at + 1].quarter == zero.quarter:
            low, _, other = zeros[at + 1].triple
        found.append((zero.quarter, high * other + low * size, 2 * size * other))
    return found


def stretches_of(wave):
    """A sign and a place where the wave has it, for each part of its row."""
    if wave == NOUGHT_WAVE:
        return [(0, EAST_PLACE)]
    rows = quarter_rows(wave)
    places = places_behind(zeros_in_order(wave))
    if len(places) == 0:
        places = [EAST_PLACE]
    return [(sign_of(scaled_worth(rows[quarter], n, m)), (quarter, n, m)) for quarter, n, m in places]


def signs_of(wave):
    """The row of the wave."""
    return tuple([sign for sign, _ in stretches_of(wave)])


def count_zeros(wave):
    """The number of the zeros of the wave, None for the nought wave."""
    return None if wave == NOUGHT_WAVE else len(zeros_in_order(wave))


def is_never_below(wave):
    """Whether the wave is below 0 at no turn."""
    return -1 not in signs_of(wave)


def is_always_above(wave):
    """Whether the wave is above 0 at all turns."""
    # Without zeros a wave has one sign, that of its mean, K0.
    return wave[0][0] > 0 and count_zeros(wave) == 0


def place_where(wave, sign):
    """Any place at which the wave has the sign, 1 or -1; None."""
    for found, place in stretches_of(wave):
        if found == sign:
            return place
    return None


def turn_with(wave, sign):
    """Any turn, told by fractions, at which the wave has the sign; None."""
    if wave == NOUGHT_WAVE:
        return EAST if sign == 0 else None
    if sign == 0:
        return zero_turn(wave)
    place = place_where(wave, sign)
    return None if place is None else turn_at(place)


def zero_turn(wave):
    """Any zero, told by fractions, of a wave that is not the nought wave; None."""
    row = quarter_rows(wave)[0]
    if row[-1] == 0:
        return WEST
    half = fraction_root(single_factors(row))
    return None if half is None else turn_of(half)
