"""Polynomials over whole numbers: lists, the number ahead of x ** k at the index k.

The last number of a list is not 0, but where something else is said.
"""

from itertools import accumulate
from math import gcd

PRIME = 2 ** 61 - 1


def sign_of(number):
    """The sign of a whole number: -1, 0 or 1."""
    if number == 0:
        return 0
    return 1 if number > 0 else -1


def trimmed(row):
    """The numbers of the list without the noughts at its end."""
    many = len(row)
    while many > 0 and row[many - 1] == 0:
        many -= 1
    return row[:many]


def scaled_worth(row, n, m):
    """What the polynomial is worth at n / m, times so many m as its degree is.

    For m above 0 that is a whole number with the sign that it has there.
    """
    total = 0
    scale = 1
    for number in reversed(row):
        total = total * n + number * scale
        scale = scale * m
    return total


def slope_of(row):
    """The derivative."""
    return [at * number for at, number in enumerate(row)][1:]


def primitive(row):
    """The polynomial divided by the greatest whole number that divides all of it."""
    shared = 0
    for number in row:
        shared = gcd(shared, number)
    return [number // shared for number in row]


def quotient(row, by):
    """The polynomial that times `by` is this one, None if there is none over whole numbers."""
    many = len(row) - len(by) + 1
    rest = list(row)
    found = [0] * max(many, 0)
    for at in range(many - 1, -1, -1):
        digit, left = divmod(rest[at + len(by) - 1], by[-1])
        if left != 0:
            return None
        found[at] = digit
        for k, number in enumerate(by):
            rest[at + k] -= digit * number
    return found if len(trimmed(rest)) == 0 else None


def digits_of(number, base):
    """The polynomial that is worth the number at the base, of numbers as near to 0 as may be."""
    found = []
    while number != 0:
        digit = number % base
        if 2 * digit > base:
            digit -= base
        found.append(digit)
        number = (number - digit) // base
    return found


def shared_factor(one, other):
    """The greatest common divisor of two primitive polynomials.

    It is guessed from that of their worths at one place. At a place above twice the
    least of both heights and 1, a guess that divides both is the greatest divisor (Char,
    Geddes, Gonnet 1984); far enough out, the guess is right.
    """
    height = min(max([abs(number) for number in one]), max([abs(number) for number in other]))
    place = 2 * height + 2
    while True:
        worths = gcd(scaled_worth(one, place, 1), scaled_worth(other, place, 1))
        guess = primitive(digits_of(worths, place))
        if quotient(one, guess) is not None and quotient(other, guess) is not None:
            return guess
        place = 3 * place + 1


def rest_by_prime(one, other):
    """A polynomial by the prime that shares with `other` what both told do by it; shorter than `other`."""
    rest = one
    while len(rest) >= len(other):
        ahead = [0] * (len(rest) - len(other)) + other
        rest = trimmed([(x * other[-1] - y * rest[-1]) % PRIME for x, y in zip(rest, ahead)])
    return rest


def is_surely_single(row):
    """Whether by the prime the polynomial shares no factor with its derivative: then it does not at all.

    That spares the divisors of long numbers, but for polynomials with a factor twice.
    """
    one = trimmed([number % PRIME for number in row])
    other = trimmed([number % PRIME for number in slope_of(row)])
    if len(one) < len(row):
        return False
    while len(other) > 1:
        one, other = other, rest_by_prime(one, other)
    return len(other) == 1


def single_factors(row):
    """A polynomial with the same zeros as this one, which is not nought, each just once."""
    plain = primitive(trimmed(row))
    if len(plain) == 1 or is_surely_single(plain):
        return plain
    return quotient(plain, shared_factor(plain, primitive(slope_of(plain))))


def shifted(row):
    """The polynomial that is worth at x what this one is worth at x + 1."""
    rest = row[::-1]
    found = []
    while len(rest) > 0:
        rest = list(accumulate(rest))
        found.append(rest.pop())
    return found


def sign_changes(row):
    """How often the sign changes from one number of the list to the next one, noughts left out."""
    signs = [number > 0 for number in row if number != 0]
    return len([at for at in range(1, len(signs)) if signs[at] != signs[at - 1]])
