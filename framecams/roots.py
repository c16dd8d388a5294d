"""The roots of a polynomial over whole numbers, each of which is a root just once."""

from math import gcd, isqrt

from framecams.polynomials import scaled_worth, shifted, sign_changes, sign_of, slope_of
from framecams.ratios import ratio

FIRST_MODULUS = 37
LEAST_PARTS = 4


def roots_within(row):
    """Triples (low, high, size), ascending: one for each root from 0 on below 1.

    The root is low / size, if high is low, too; otherwise it is the only one from
    low / size up to high / size, which both are none.
    """
    found = [(0, 0, 1)] if row[0] == 0 else []
    waiting = [(row, 0, 1)]
    while len(waiting) > 0:
        part, low, size = waiting.pop()
        many = most_roots(part)
        if len(part) == 0:
            found.append((low, low, size))
        elif many == 1:
            found.append(with_clear_ends(row, low, size))
        elif many > 1:
            waiting.extend(halves(part, low, size))
    return found


def most_roots(part):
    """A number that the roots between 0 and 1 are not above: just theirs if it is 0 or 1.

    By Descartes' rule, for the polynomial that has them as its roots above 0.
    """
    return sign_changes(shifted(part[::-1]))


def halves(part, low, size):
    """The two halves of a stretch, the latter one first, and between them [] for a root at the middle.

    `part` has its roots between 0 and 1 where they are between low / size and (low + 1) / size.
    """
    first = [number << (len(part) - 1 - at) for at, number in enumerate(part)]
    second = shifted(first)
    middle, whole = 2 * low + 1, 2 * size
    between = [([], middle, whole)] if second[0] == 0 else []
    return [(second, middle, whole)] + between + [(first, 2 * low, whole)]


def with_clear_ends(row, low, size):
    """The triple for the one root between low / size and (low + 1) / size."""
    before = sign_behind(row, low, size)
    while scaled_worth(row, low, size) == 0 or scaled_worth(row, low + 1, size) == 0:
        low, size = 2 * low, 2 * size
        sign = sign_of(scaled_worth(row, low + 1, size))
        if sign == 0:
            return (low + 1, low + 1, size)
        if sign == before:
            low += 1
    return (low, low + 1, size)


def sign_behind(row, n, m):
    """The sign that the polynomial has just behind n / m."""
    sign = sign_of(scaled_worth(row, n, m))
    return sign if sign != 0 else sign_of(scaled_worth(slope_of(row), n, m))


def root_near(row, place, many):
    """The greatest whole number n such that n / many is not above the root, for one of its triples.

    Near to the root the polynomial is almost straight, so a straight line between both ends
    tells where it is; each time that this is right the next stretch is cut into more parts.
    """
    low, high, size = place
    below = low * many // size
    if low == high:
        return below
    before = sign_of(scaled_worth(row, low, size))
    above = high * many // size + 1
    ends = [abs(scaled_worth(row, below, many)), abs(scaled_worth(row, above, many))]
    parts = LEAST_PARTS
    while above - below > 1:
        step = max((above - below) // parts, 1)
        guess = below + (above - below) * ends[0] // (ends[0] + ends[1] + 1)
        for at in (guess - step, guess + step, (below + above) // 2):
            if below < at < above:
                worth = scaled_worth(row, at, many)
                if sign_of(worth) in (0, before):
                    below, ends[0] = at, abs(worth)
                else:
                    above, ends[1] = at, abs(worth)
        parts = parts * parts if above - below <= 2 * step else max(isqrt(parts), LEAST_PARTS)
    return below


def fraction_root(row):
    """Any fraction at which the polynomial is 0; None.

    A root n / m has remainders by each modulus that shares nothing with the last
    number. It leads back from a root by the modulus to just one by its powers.
    """
    slope = slope_of(row)
    modulus = FIRST_MODULUS
    while not has_clear_roots(row, slope, modulus):
        modulus += 2
    last = abs(row[-1])
    # The last number times a root is whole, and not above this (Cauchy).
    bound = last + max([abs(number) for number in row])
    for root in roots_by(row, modulus):
        n = lifted(row, slope, root, modulus, 2 * bound, last)
        if scaled_worth(row, n, last) == 0:
            return ratio(n, last)
    return None


def remainder_at(row, place, modulus):
    """The remainder of what the polynomial is worth at the place."""
    total = 0
    for number in reversed(row):
        total = (total * place + number) % modulus
    return total


def roots_by(row, modulus):
    """The remainders at which the polynomial is a multiple of the modulus."""
    small = [number % modulus for number in row]
    return [place for place in range(modulus) if remainder_at(small, place, modulus) == 0]


def has_clear_roots(row, slope, modulus):
    """Whether each root by the modulus leads to just one by its powers, and none is left out."""
    if gcd(row[-1], modulus) != 1:
        return False
    return all([gcd(remainder_at(slope, root, modulus), modulus) == 1 for root in roots_by(row, modulus)])


def lifted(row, slope, root, modulus, bound, last):
    """`last` times the root that belongs to this root by the modulus, if it is whole and not above half the bound.

    By Newton's steps, each of which squares the modulus.
    """
    falls = remainder_at(slope, root, modulus)
    inverse = [k for k in range(modulus) if k * falls % modulus == 1][0]
    while modulus <= bound:
        modulus = modulus * modulus
        root = (root - remainder_at(row, root, modulus) * inverse) % modulus
        inverse = inverse * (2 - remainder_at(slope, root, modulus) * inverse) % modulus
    n = root * last % modulus
    return n - modulus if 2 * n > modulus else n
