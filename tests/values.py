"""Values for the tests: turns, waves, wrong ones of all kinds, and a second way to reckon."""

from fractions import Fraction
from math import gcd

from framecams.turns import turn_of

NIL, ONE, TWO, HALF = (0, 1), (1, 1), (2, 1), (1, 2)
EAST, NORTH, WEST, SOUTH = (ONE, NIL), (NIL, ONE), ((-1, 1), NIL), (NIL, (-1, 1))
SLANT = ((3, 5), (4, 5))
BLANK = (NIL, NIL)
ROUND_CAM, OVAL, EGG = (ONE, ()), (ONE, (BLANK, ((1, 4), NIL))), (ONE, (BLANK, BLANK, ((1, 10), NIL)))
LEAN = (ONE, (((-1, 2), (2, 3)),))
FULL = ((-7, 3), tuple([((k, 9 * k + 1), (-1, k + 2)) for k in range(1, 9)]))
GAPPED = ((5, 2), ((HALF, NIL), BLANK, (NIL, (-3, 4)), BLANK, BLANK, ((2, 7), (1, 3))))
BIG = 10 ** 399 + 7
BIG_HALF = (3 ** 800, 2 ** 1300)
LATER = (turn_of((3, 7)), turn_of((-22, 9)), turn_of((1, 100)), turn_of(BIG_HALF))
TURNS = (EAST, NORTH, WEST, SOUTH, SLANT, ((-5, 13), (12, 13)), ((8, 17), (-15, 17)), ((-20, 29), (-21, 29))) + LATER
WAVES = (ROUND_CAM, OVAL, EGG, LEAN, FULL, GAPPED, (NIL, ()), ((BIG, BIG + 1), ((NIL, (-1, BIG)),)))

# More turns than a wave that is not the nought wave can have zeros, 16.
MANY_TURNS = [turn_of((2 * k + 1, 4)) for k in range(-9, 9)]


class Hostile:
    """An object that fails if it is compared, measured, hashed, tested or shown."""

    def fail(self, *told):
        raise AssertionError("an argument was asked for what it need not tell")

    __eq__ = __ne__ = __lt__ = __gt__ = __le__ = __ge__ = __len__ = __hash__ = __bool__ = fail
    __iter__ = __getitem__ = __index__ = __int__ = __repr__ = __str__ = __contains__ = fail


def nested(value, depth):
    """The value inside as many tuples."""
    for _ in range(depth):
        value = (value,)
    return value


PLAIN = (None, True, False, "", "text", "(1, 1)", b"", b"\x00", [], {}, set(), frozenset(), ..., NotImplemented)
OBJECTS = (object(), Hostile(), len, int, ValueError, ValueError("x"), turn_of, range(2), 2j, iter(()))
NUMBERS = (0, 1, -1, 61, BIG, -BIG)
TUPLES = ((), (1,), (1, 2, 3), (None, None), nested(1, 14), nested((), 13), (Hostile(), Hostile()), ("a", "b"))
NO_VALUES = PLAIN + OBJECTS + TUPLES + ([1, 2], {1: 2}, [[1, 1], [0, 1]], {"n": 1})

NO_RATIOS = (
    (0, 0), (1, 0), (0, -1), (1, -1), (-1, -2), (0, 2), (2, 2), (2, 4), (-3, 9), (BIG, BIG), (2 * BIG, 4),
    (True, 1), (1, True), (False, 1), (None, 1), (1, None), ("1", 1), (1, "1"), ((1,), 1), (1, 2, 1), [1, 2],
    (1, Hostile()), (Hostile(), 1), (1j, 1), (Fraction(1), 1),
)
NOT_FRACTIONS = NO_VALUES + NUMBERS + NO_RATIOS + (EAST, ROUND_CAM, OVAL)
NOT_PLACES = NO_VALUES + NUMBERS + NO_RATIOS + (
    ONE, (ONE,), (ONE, NIL, NIL), [ONE, NIL], (ONE, [0, 1]), ([1, 1], NIL), (ONE, (2, 2)), ((0, 2), NIL), (ONE, 0),
    (ONE, (0, -1)), ((True, 1), NIL), (ONE, (False, 1)), (ONE, None), (Hostile(), NIL), (ONE, Hostile()), ROUND_CAM,
)
NOT_TURNS = NOT_PLACES + (
    BLANK, (ONE, ONE), (HALF, HALF), (TWO, NIL), ((3, 5), (4, 6)), ((6, 10), (8, 10)), ((3, 5), (-4, -5)),
    ((3, 5), (3, 5)), ((3, 5), (12, 13)), ((4, 5), (4, 5)), ((3, 4), (4, 3)), (SLANT, SLANT), ((-3, -5), (4, 5)),
    ((BIG, BIG + 1), NIL), ((3, 5), (4, 5), NIL), ((3, 5), [4, 5]), [(3, 5), (4, 5)],
)
NOT_WAVES = NO_VALUES + NUMBERS + (
    ONE, EAST, (ONE,), (ONE, (), ()), (ONE, None), (ONE, []), (ONE, [(ONE, NIL)]), [ONE, ()], (1, ()), ((2, 2), ()),
    ((1, -1), ()), ((True, 1), ()), (None, ()), (ONE, ONE), (ONE, (ONE,)), (ONE, ((ONE,),)), (ONE, "text"),
    (ONE, (BLANK,)), (ONE, ((ONE, NIL), BLANK)), (ONE, (BLANK, BLANK)), (ONE, ((ONE, NIL),) * 9),
    (ONE, (BLANK,) * 8 + ((ONE, NIL),)), (ONE, (BLANK,) * 8), (ONE, ((ONE, NIL),) * 8 + (BLANK,)), (ONE, (None,)),
    (ONE, ((ONE, NIL, NIL),)), (ONE, ([ONE, NIL],)), (ONE, ((ONE, [0, 1]),)), (ONE, ((ONE, (2, 2)),)),
    (ONE, (((0, 2), NIL), (ONE, NIL))), (ONE, ((ONE, (0, -1)),)), (ONE, ((ONE, (True, 1)),)), (ONE, {}),
    (ONE, (Hostile(),)), (Hostile(), ()), (ONE, Hostile()), (ONE, ((ONE, 0),)), (ONE, (ONE, NIL)), (ONE, EAST),
    (ONE, ((NIL, ONE), ("a", "b"), (ONE, NIL))),
)


def number_of(fraction):
    """The fraction as Python's own."""
    return Fraction(fraction[0], fraction[1])


def pair_of(number):
    """Python's own fraction as the package tells one."""
    return (number.numerator, number.denominator)


def is_reduced(fraction):
    """Whether it is a fraction as the document tells one."""
    n, m = fraction
    return isinstance(fraction, tuple) and type(n) is int and type(m) is int and m > 0 and gcd(n, m) == 1


def circled(turn, times):
    """Cosine and sine of so many times the angle, by Python's own fractions."""
    c, s = number_of(turn[0]), number_of(turn[1])
    x, y = Fraction(1), Fraction(0)
    for _ in range(abs(times)):
        x, y = x * c - y * s, x * s + y * c
    return x, (y if times >= 0 else -y)


def reckoned(wave, turn):
    """What the wave is worth at the turn, by Python's own fractions."""
    total = number_of(wave[0])
    for j, (p, q) in enumerate(wave[1], start=1):
        x, y = circled(turn, j)
        total += number_of(p) * x + number_of(q) * y
    return total


def all_fractions(wave):
    """The numbers of the wave, one behind the other."""
    return [wave[0]] + [fraction for pair in wave[1] for fraction in pair]
