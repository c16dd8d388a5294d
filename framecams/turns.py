"""Turns: pairs of fractions, the cosine and the sine of an angle.

Both fractions of a turn have the same denominator: (n / m) ** 2 reduced has m * m
below, and 1 less it has, too. The functions here count on it.
"""

from math import lcm

from framecams.errors import InvalidTurn, InvalidTurns
from framecams.ratios import NOUGHT, ONE, check_fraction, check_number, is_fraction_pair, ratio, ratio_negative

EAST = (ONE, NOUGHT)
WEST = ((-1, 1), NOUGHT)
MOST_TIMES = 60


def is_turn(value):
    """Whether the value is a turn, whatever it is."""
    if not is_fraction_pair(value):
        return False
    (a, m), (b, k) = value
    return m == k and a * a + b * b == m * m


def check_turn(turn):
    """Raise InvalidTurn for what is no turn."""
    if not is_turn(turn):
        raise InvalidTurn(turn)


def check_turns(turns):
    """Raise InvalidTurns for what is no tuple of turns."""
    if not isinstance(turns, tuple):
        raise InvalidTurns(None)
    for index, turn in enumerate(turns):
        if not is_turn(turn):
            raise InvalidTurns(index)


def turn_of(fraction):
    """The turn with this half tangent; None stands for the half of (-1, 0)."""
    if fraction is None:
        return WEST
    check_fraction(fraction)
    n, m = fraction
    whole = m * m + n * n
    return (ratio(m * m - n * n, whole), ratio(2 * n * m, whole))


def half_of(turn):
    """The half tangent of the turn, None for (-1, 0)."""
    check_turn(turn)
    (a, m), (b, _) = turn
    if a == -m:
        return None
    return ratio(b, m + a)


def joined(turn, other):
    """The turn with the angles of both, added."""
    check_turn(turn)
    check_turn(other)
    return join_turns(turn, other)


def join_turns(turn, other):
    """Like joined, for what surely are turns."""
    (a, m), (b, _) = turn
    (c, k), (d, _) = other
    return (ratio(a * c - b * d, m * k), ratio(a * d + b * c, m * k))


def back(turn):
    """The turn with the angle the other way round."""
    check_turn(turn)
    return (turn[0], ratio_negative(turn[1]))


def power(turn, number):
    """The turn with so many times its angle."""
    check_turn(turn)
    check_number(number, -MOST_TIMES, MOST_TIMES)
    step = turn if number >= 0 else back(turn)
    return turn_times(step, abs(number))


def join_powers(turn, other):
    """Like join_turns, for two powers of one turn, with numbers from 0 on.

    What is told is reduced as it stands: a prime that divides both parts of a power of a whole
    complex number divides both parts of that number, unless it is 2, and denominators of
    turns are odd.
    """
    (a, m), (b, _) = turn
    (c, k), (d, _) = other
    return ((a * c - b * d, m * k), (a * d + b * c, m * k))


def turn_times(turn, times):
    """The turn with so many times its angle, for a number from 0 on.

    Doubling keeps the joins few: the numbers grow with each of them.
    """
    if times == 0:
        return EAST
    half = turn_times(turn, times // 2)
    double = join_powers(half, half)
    return join_powers(double, turn) if times & 1 else double


def multiples_of(turn, most):
    """The turns with 1, 2 and so on up to `most` times the angle, in a list."""
    found = []
    reached = EAST
    for _ in range(most):
        reached = join_powers(reached, turn)
        found.append(reached)
    return found


def in_order(turns):
    """The same turns by their angle from (1, 0) on, equal ones kept."""
    check_turns(turns)
    shared = 1
    for turn in turns:
        shared = lcm(shared, turn[0][1])
    return tuple(sorted(turns, key=lambda told: order_key(told, shared)))


def order_key(turn, shared):
    """Where the turn comes in order, for a multiple of all denominators.

    With the angle the cosine falls from (1, 0) up to (-1, 0) and rises from there on;
    over one denominator the cosines can be compared as whole numbers.
    """
    (a, m), (b, _) = turn
    cosine = a * (shared // m)
    return (0, -cosine) if b >= 0 else (1, cosine)
