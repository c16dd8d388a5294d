"""A second way to the zeros of a wave: Sturm's chains over Python's own fractions.

It goes over the half tangents u of all turns at once: the zeros from 0 on, the turn
(-1, 0), and those below 0 come in the order of their angles.
"""

from fractions import Fraction

from tests.values import number_of


def trim(row):
    """The row without the noughts at its end."""
    row = list(row)
    while row and row[-1] == 0:
        row.pop()
    return row


def multiplied(one, other):
    """Both polynomials multiplied."""
    found = [Fraction(0)] * (len(one) + len(other) - 1)
    for i, a in enumerate(one):
        for j, b in enumerate(other):
            found[i + j] += a * b
    return found


def summed(one, other):
    """Both polynomials added."""
    most = max(len(one), len(other))
    one, other = list(one) + [0] * most, list(other) + [0] * most
    return [a + b for a, b in zip(one[:most], other[:most])]


def half_polynomial(wave):
    """(1 + u * u) to the power m times the wave, by cos and sin of j times the angle, one j after the other."""
    cosine, sine, norm = [Fraction(1), 0, Fraction(-1)], [Fraction(0), Fraction(2)], [Fraction(1), 0, Fraction(1)]
    total, c, s = [number_of(wave[0])], [Fraction(1)], [Fraction(0)]
    for p, q in wave[1]:
        c, s = (summed(multiplied(c, cosine), [-x for x in multiplied(s, sine)]),
                summed(multiplied(s, cosine), multiplied(c, sine)))
        told = summed([number_of(p) * x for x in c], [number_of(q) * x for x in s])
        total = summed(multiplied(total, norm), told)
    return trim(total)


def divided(one, other):
    """Quotient and rest of two polynomials."""
    rest, found = list(one), [Fraction(0)] * max(len(one) - len(other) + 1, 0)
    for at in range(len(found) - 1, -1, -1):
        found[at] = rest[at + len(other) - 1] / other[-1]
        for k, x in enumerate(other):
            rest[at + k] -= found[at] * x
    return found, trim(rest)


def chain_of(row):
    """Sturm's chain of the polynomial."""
    chain = [row, trim([at * x for at, x in enumerate(row)][1:])]
    while chain[-1]:
        rest = divided(chain[-2], chain[-1])[1]
        chain.append([-x / abs(rest[-1]) for x in rest])
    return chain[:-1]


def worth_of(row, x):
    """What the polynomial is worth at x."""
    total = Fraction(0)
    for number in reversed(row):
        total = total * x + number
    return total


def sign_of(number):
    return (number > 0) - (number < 0)


class Zeros:
    """The zeros of a wave, in order: None for (-1, 0), otherwise pairs (a, b): a < u <= b for just this one."""

    def __init__(self, wave):
        self.wave = wave
        self.worths = half_polynomial(wave)
        self.is_nought = not self.worths
        self.order = []
        if not self.is_nought:
            self.row = divided(self.worths, chain_of(self.worths)[-1])[0]
            self.chain = chain_of(self.row)
            self.bound = 2 + max(abs(x) for x in self.row) / abs(self.row[-1])
            self.order = self.found()

    def found(self):
        # A zero at 0 is told alone: it comes first, and its pair would be among those below 0.
        at_nought = self.row[0] == 0
        below = [pair for pair in self.parted(-self.bound, Fraction(0)) if not (at_nought and self.has(pair, 0))]
        above = self.parted(Fraction(0), self.bound)
        first = [(Fraction(-1, 10 ** 9), Fraction(0))] if at_nought else []
        at_west = [None] if len(self.worths) < 2 * len(self.wave[1]) + 1 else []
        return first + above + at_west + below

    def has(self, pair, x):
        return x is not None and pair[0] < x <= pair[1] and worth_of(self.row, x) == 0

    def changes(self, x):
        signs = [sign_of(worth_of(row, x)) for row in self.chain]
        signs = [sign for sign in signs if sign]
        return sum(one != other for one, other in zip(signs, signs[1:]))

    def count(self, a, b):
        """The number of zeros u with a < u <= b."""
        return self.changes(a) - self.changes(b)

    def parted(self, a, b):
        if len(self.row) == 1 or self.count(a, b) == 0:
            return []
        if self.count(a, b) == 1:
            return [(a, b)]
        return self.parted(a, (a + b) / 2) + self.parted((a + b) / 2, b)

    def halved(self, pair):
        a, b = pair
        return (a, (a + b) / 2) if self.count(a, (a + b) / 2) else ((a + b) / 2, b)

    def sign_behind(self, pair):
        if pair is None:
            return sign_of(worth_of(self.worths, -self.bound))
        step = Fraction(1)
        while self.count(pair[1], pair[1] + step) or worth_of(self.worths, pair[1] + step) == 0:
            step, pair = step / 2, self.halved(pair)
        return sign_of(worth_of(self.worths, pair[1] + step))

    def signs(self):
        """The row of the wave."""
        if self.is_nought:
            return (0,)
        if not self.order:
            return (sign_of(number_of(self.wave[0])),)
        return tuple(self.sign_behind(pair) for pair in self.order)

    def quarter_and_rest(self, index, many):
        """The quarter of the zero, the whole part of `many` times its rest, and whether it is just this."""
        pair = self.order[index]
        if pair is None:
            return (2, 0, True)
        # No zero is a begin of a quarter but 0, 1 and -1, which are tried.
        for quarter, begin in ((0, 0), (1, 1), (3, -1)):
            if self.has(pair, begin):
                return (quarter, 0, True)
        while any(pair[0] < begin <= pair[1] for begin in (0, 1, -1)):
            pair = self.halved(pair)
        quarter = [pair[0] >= 0, pair[0] >= 1, pair[1] < -1, pair[1] < 0].index(True) if pair[0] < 1 else 1
        low, high = 0, many
        while high - low > 1:
            middle = (low + high) // 2
            place = self.half_at(quarter, Fraction(middle, many))
            if self.is_behind_or_at(pair, place):
                low = middle
            else:
                high = middle
        return (quarter, low, self.has(pair, self.half_at(quarter, Fraction(low, many))))

    def half_at(self, quarter, rest):
        """The half tangent of the turn in the quarter with this rest; None for (-1, 0)."""
        if quarter == 2 and rest == 0:
            return None
        return (rest, (1 + rest) / (1 - rest), rest and -1 / rest, (rest - 1) / (rest + 1))[quarter]

    def is_behind_or_at(self, pair, place):
        """Whether the zero in the pair is not below the place."""
        if place is None or place <= pair[0]:
            return True
        if place > pair[1]:
            return False
        return self.has(pair, place) or self.count(place, pair[1]) == 1
