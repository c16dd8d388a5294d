"""Waves: pairs of K0 and the harmonics, each a pair of fractions."""

from framecams.errors import InvalidPlace, InvalidWave
from framecams.ratios import NOUGHT, check_fraction, is_fraction, is_fraction_pair
from framecams.ratios import ratio_negative, ratio_product, ratio_sum, ratio_times
from framecams.turns import check_turn, multiples_of

MOST_HARMONICS = 8
BLANK = (NOUGHT, NOUGHT)


def is_wave(value):
    """Whether the value is a wave, whatever it is."""
    if not isinstance(value, tuple) or len(value) != 2:
        return False
    first, pairs = value
    if not is_fraction(first) or not isinstance(pairs, tuple) or len(pairs) > MOST_HARMONICS:
        return False
    if not all([is_fraction_pair(pair) for pair in pairs]):
        return False
    return len(pairs) == 0 or pairs[-1] != BLANK


def check_wave(wave):
    """Raise InvalidWave for what is no wave."""
    if not is_wave(wave):
        raise InvalidWave(wave)


def check_place(place):
    """Raise InvalidPlace for what is no pair of fractions."""
    if not is_fraction_pair(place):
        raise InvalidPlace(place)


def made_wave(first, pairs):
    """The wave with this K0 and a list of pairs, those of noughts at the end left out."""
    many = len(pairs)
    while many > 0 and pairs[many - 1] == BLANK:
        many -= 1
    return (first, tuple(pairs[:many]))


def pair_at(wave, number):
    """The harmonic with this number, from 1 on; a pair of noughts beyond the last one."""
    pairs = wave[1]
    return pairs[number - 1] if number <= len(pairs) else BLANK


def pair_sum(one, other):
    """Two pairs of fractions added, number by number."""
    return (ratio_sum(one[0], other[0]), ratio_sum(one[1], other[1]))


def pair_product(one, other):
    """The products of the first numbers and of the second ones, added."""
    return ratio_sum(ratio_product(one[0], other[0]), ratio_product(one[1], other[1]))


def worth(wave, turn):
    """What the wave is worth at the turn, a fraction."""
    check_wave(wave)
    check_turn(turn)
    first, pairs = wave
    total = first
    for pair, multiple in zip(pairs, multiples_of(turn, len(pairs))):
        total = ratio_sum(total, pair_product(pair, multiple))
    return total


def plus(wave, other):
    """Both waves added."""
    check_wave(wave)
    check_wave(other)
    return wave_sum(wave, other)


def wave_sum(wave, other):
    """Like plus, also for more harmonics, and where a pair of noughts stands at the end of one of both."""
    many = max(len(wave[1]), len(other[1]))
    pairs = [pair_sum(pair_at(wave, number), pair_at(other, number)) for number in range(1, many + 1)]
    return made_wave(ratio_sum(wave[0], other[0]), pairs)


def wave_less(wave, other):
    """The first wave less the second one, also for more harmonics."""
    return wave_sum(wave, wave_times(other, (-1, 1)))


def times(wave, fraction):
    """The wave multiplied by the fraction."""
    check_wave(wave)
    check_fraction(fraction)
    return wave_times(wave, fraction)


def wave_times(wave, fraction):
    """Like times, also for more harmonics."""
    first, pairs = wave
    grown = [(ratio_product(p, fraction), ratio_product(q, fraction)) for p, q in pairs]
    return made_wave(ratio_product(first, fraction), grown)


def turned(wave, turn):
    """The wave that is worth at each turn what the wave is worth at it joined with `turn`."""
    check_wave(wave)
    check_turn(turn)
    first, pairs = wave
    ahead = multiples_of(turn, len(pairs))
    return made_wave(first, [turned_pair(pair, multiple) for pair, multiple in zip(pairs, ahead)])


def turned_pair(pair, multiple):
    """The harmonic carried along by the turn with so many times the angle as its number."""
    p, q = pair
    return (pair_product(pair, multiple), pair_product((q, ratio_negative(p)), multiple))


def mirrored(wave):
    """The wave that is worth at each turn what the wave is worth back from it."""
    check_wave(wave)
    first, pairs = wave
    return made_wave(first, [(p, ratio_negative(q)) for p, q in pairs])


def moved(wave, place):
    """The wave with the pair of fractions added to harmonic 1."""
    check_wave(wave)
    check_place(place)
    return wave_sum(wave, (NOUGHT, (place,)))


def growth(wave):
    """What the wave grows by with the angle."""
    check_wave(wave)
    return growth_of(wave)


def growth_of(wave):
    """Like growth, also for more harmonics."""
    pairs = [(ratio_times(q, j), ratio_times(p, -j)) for j, (p, q) in enumerate(wave[1], start=1)]
    return made_wave(NOUGHT, pairs)


def bend(wave):
    """What the wave is plus what its growth grows by."""
    check_wave(wave)
    first, pairs = wave
    bent = [(ratio_times(p, 1 - j * j), ratio_times(q, 1 - j * j)) for j, (p, q) in enumerate(pairs, start=1)]
    return made_wave(first, bent)


def harmonics_of(wave):
    """The ascending tuple of the numbers of the harmonics that the wave has."""
    check_wave(wave)
    return tuple([j for j, pair in enumerate(wave[1], start=1) if pair != BLANK])
