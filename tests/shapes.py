"""Waves of which it is known where they are 0, cams that are just some, and a way to multiply waves."""

from fractions import Fraction
from random import Random

from tests.values import BLANK, EGG, HALF, NIL, ONE, OVAL, ROUND_CAM, TWO, number_of, pair_of

FINEST = 10 ** 12
TINY = (1, FINEST)


def made(first, *pairs):
    """The wave with these numbers, whole ones, Python's own fractions or texts of such."""
    pairs = [(pair_of(Fraction(p)), pair_of(Fraction(q))) for p, q in pairs]
    while pairs and pairs[-1] == BLANK:
        pairs.pop()
    return (pair_of(Fraction(first)), tuple(pairs))


def numbers_of(wave):
    """Its numbers as Python's own fractions, as `made` takes them."""
    return [number_of(wave[0])] + [(number_of(p), number_of(q)) for p, q in wave[1]]


def raised(wave, fraction):
    """The wave with the fraction added at all turns."""
    return (pair_of(number_of(wave[0]) + number_of(fraction)), wave[1])


def less(fraction):
    """0 less the fraction."""
    return (-fraction[0], fraction[1])


def opposite(wave):
    """0 less the wave."""
    return (less(wave[0]), tuple((less(p), less(q)) for p, q in wave[1]))


def multiplied(wave, other):
    """Both waves multiplied, harmonic by harmonic: 2 cos a cos b is cos (a + b) plus cos (a - b), and so on."""
    one, two = numbers_of(wave), numbers_of(other)
    one, two = [(one[0], 0)] + one[1:], [(two[0], 0)] + two[1:]
    found = [[Fraction(0), Fraction(0)] for _ in range(len(one) + len(two) - 1)]
    for i, (p, q) in enumerate(one):
        for j, (a, b) in enumerate(two):
            found[i + j][0] += (p * a - q * b) / 2
            found[i + j][1] += (p * b + q * a) / 2
            found[abs(i - j)][0] += (p * a + q * b) / 2
            found[abs(i - j)][1] += (q * a - p * b) / 2 * (1 if i > j else -1)
    return made(found[0][0], *found[1:])


def unbent(bend):
    """The wave without harmonic 1 that has this bend."""
    first, *pairs = numbers_of(bend)
    return made(first, *[(0, 0) if j == 1 else (p / (1 - j * j), q / (1 - j * j)) for j, (p, q) in enumerate(pairs, 1)])


def bent(wave):
    """The bend of the wave, number by number."""
    first, *pairs = numbers_of(wave)
    return made(first, *[((1 - j * j) * p, (1 - j * j) * q) for j, (p, q) in enumerate(pairs, 1)])


def grown(wave):
    """The growth of the wave, number by number."""
    _, *pairs = numbers_of(wave)
    return made(0, *[(j * q, -j * p) for j, (p, q) in enumerate(pairs, 1)])


NOUGHT = (NIL, ())
SWING, BOW = made(0, (1, 0)), made(0, (0, 1))
TWICE, TWICE_BOW = made(0, (0, 0), (1, 0)), made(0, (0, 0), (0, 1))
FAST, FAST_BOW = made(0, *[(0, 0)] * 7, (1, 0)), made(0, *[(0, 0)] * 7, (0, 1))
# 0 at the half tangents 1 / 2 and 2, at (1, 0) twice, at (-1, 0) twice, at (-1, 0) and (0, -1).
SLANTED, AT_EAST, AT_WEST, CORNER = made("-4/5", (0, 1)), made(1, (-1, 0)), made(1, (1, 0)), made(1, (1, 1))
# 0 where cos 2 t is 1 / 3: at four turns, none told by fractions.
THIRD = made("-1/3", (0, 0), (1, 0))
TOUCHING = multiplied(THIRD, THIRD)
# 0 at one turn alone, twice: its half tangent is the only root of u * u * u + u = 1 / 10, no fraction.
CUBE = made(1610, (-1585, -160), (6, -80), (1, 0))
# The square of a wave with four harmonics, 0 at (1, 0), and a wave with eight that is 0 at both kinds of turns.
ROUGH = made(-3, (1, "1/2"), (0, -1), (2, 0), (0, "3/4"))
SQUARED = multiplied(ROUGH, ROUGH)
MIXED = multiplied(multiplied(multiplied(SLANTED, THIRD), multiplied(AT_EAST, CORNER)), multiplied(SWING, TWICE_BOW))
# Below 0 but for a short stretch: around (1, 0); around turns without fractions.
SHORT, SHORTER = raised(opposite(AT_EAST), TINY), raised(opposite(TOUCHING), TINY)
EIGHT = made("1/7", *[(Fraction(k, 9 * k + 1), Fraction(1 - k, k + 2)) for k in range(1, 9)])
LONG = made(Fraction(10 ** 40 + 3, 7 ** 40), *[(Fraction(3 ** 60, 10 ** 29 + k), Fraction(-1, k)) for k in range(1, 9)])
SPECIAL = (
    NOUGHT, ROUND_CAM, opposite(ROUND_CAM), SWING, BOW, TWICE, TWICE_BOW, FAST, FAST_BOW, SLANTED, AT_EAST, AT_WEST,
    CORNER, THIRD, TOUCHING, opposite(TOUCHING), CUBE, SQUARED, opposite(SQUARED), MIXED, SHORT, SHORTER, EIGHT,
    raised(AT_WEST, less(TINY)), raised(CUBE, less(TINY)), raised(CUBE, TINY), raised(TOUCHING, TINY),
    multiplied(AT_EAST, AT_EAST), multiplied(AT_WEST, THIRD), multiplied(CORNER, CORNER), multiplied(AT_EAST, AT_WEST),
    multiplied(THIRD, SWING), multiplied(SWING, multiplied(SWING, SWING)), multiplied(SLANTED, SLANTED), OVAL, EGG,
)


def any_waves(seed, many, most=4):
    """Some more waves, with harmonics up to `most`, the same ones for each seed."""
    source = Random(seed)
    found = []
    for _ in range(many):
        size = source.choice((1, 2, 6))
        numbers = [Fraction(source.randint(-size, size), source.randint(1, size)) for _ in range(2 * most + 1)]
        bits = [source.random() < 0.7 for _ in numbers]
        kept = [number if bit else 0 for number, bit in zip(numbers, bits)]
        found.append(made(kept[0], *list(zip(kept[1::2], kept[2::2]))[:source.randint(0, most)]))
    return found


def any_cams(seed, many, most=4):
    """Some cams: waves put round by more than their bend can be below 0."""
    found = []
    for wave in any_waves(seed, many, most):
        first, *pairs = numbers_of(wave)
        room = sum((j * j - 1) * (abs(p) + abs(q)) for j, (p, q) in enumerate(pairs, 1))
        found.append(made(abs(first) + room, *pairs))
    return found


# The bend of the first is 1 - cos 2 t, of the second one TOUCHING: 0 at turns with fractions, and without.
EDGE, FINE_EDGE = made(1, (0, 0), ("1/3", 0)), unbent(TOUCHING)
WIDE = (ONE, (BLANK, (HALF, NIL)))
POINT, AXLE = made(0, (3, "-1/2")), NOUGHT
CRANK = (ONE, ((HALF, NIL),))
# The oval turned by the half of a quarter: what it has least and greatest, it has at turns without fractions.
SKEW_OVAL = made(1, (0, 0), (0, "1/4"))
MANY_CAM = made(20, (1, -1), ("1/2", "1/3"), (0, "1/4"), ("1/5", 0), (0, 0), ("1/7", "-1/8"), (0, "1/9"),
                ("-1/10", "1/11"))
CAMS = (
    ROUND_CAM, OVAL, EGG, EDGE, FINE_EDGE, POINT, AXLE, CRANK, SKEW_OVAL, CUBE, MANY_CAM, (TWO, ((TWO, NIL),)),
    made(1, (2, 0)), made(1, (0, -1)), made(5, (1, 1), (0, 0), ("1/3", "1/4"), (0, 0), ("-1/30", 0)),
)
NO_CAMS = (
    opposite(ROUND_CAM), WIDE, raised(EDGE, less(TINY)), raised(FINE_EDGE, less(TINY)), raised(NOUGHT, less(TINY)),
    raised(POINT, less(TINY)), TWICE, FAST_BOW, made(1, (0, 0), (0, 0), ("1/8", TINY[0])), SQUARED, TOUCHING,
    made(0, (1, 0), (0, 0), (0, "-1/100000")),
)
