"""Sums of waves with weights: what a box adds up to, and what bars a wave from it."""

from framecams.cones import greatest_weight, least_weight, settled
from framecams.errors import InvalidBox, InvalidWeights, NotAdded
from framecams.ratios import check_number, is_fraction_from_0, ratio_product, ratio_sum
from framecams.stretches import NOUGHT_WAVE
from framecams.waves import check_wave, is_wave, pair_product, wave_sum, wave_times

MOST_WAVES = 6


def check_box(box):
    """Raise InvalidBox for what is no tuple of one to six waves."""
    if not isinstance(box, tuple) or len(box) == 0:
        raise InvalidBox(None)
    for index, wave in enumerate(box):
        if index >= MOST_WAVES or not is_wave(wave):
            raise InvalidBox(index)


def check_weights(box, weights):
    """Raise InvalidWeights for what is no tuple of as many fractions from 0 on as the box has waves."""
    if not isinstance(weights, tuple) or len(weights) != len(box):
        raise InvalidWeights(None)
    for index, weight in enumerate(weights):
        if not is_fraction_from_0(weight):
            raise InvalidWeights(index)


def is_box(value):
    """Whether the value, whatever it is, is a box."""
    if not isinstance(value, tuple) or not 1 <= len(value) <= MOST_WAVES:
        return False
    return all([is_wave(wave) for wave in value])


def are_weights(box, value):
    """Whether the value, whatever it is, are weights of what surely is a box."""
    if not isinstance(value, tuple) or len(value) != len(box):
        return False
    return all([is_fraction_from_0(weight) for weight in value])


def added(box, weights):
    """The sum of the waves, each times its weight."""
    check_box(box)
    check_weights(box, weights)
    total = NOUGHT_WAVE
    for wave, weight in zip(box, weights):
        total = wave_sum(total, wave_times(wave, weight))
    return total


def product(wave, other):
    """The sum of the products of all numbers of both waves."""
    check_wave(wave)
    check_wave(other)
    total = ratio_product(wave[0], other[0])
    for pair, beside in zip(wave[1], other[1]):
        total = ratio_sum(total, pair_product(pair, beside))
    return total


def weights_for(box, wave):
    """Any weights by which the wave is added of the box; None."""
    check_box(box)
    check_wave(wave)
    table = settled(box, wave)[0]
    return None if table is None else tuple(table.weights())


def barring_wave(box, wave):
    """Any wave that bars the wave from the box; None."""
    check_box(box)
    check_wave(wave)
    return settled(box, wave)[1]


def is_barring(box, wave, value):
    """Whether the value, whatever it is, is a wave that bars the wave from the box."""
    check_box(box)
    check_wave(wave)
    if not is_wave(value) or product(value, wave)[0] >= 0:
        return False
    return all([product(value, part)[0] >= 0 for part in box])


def weight_range(box, wave, number):
    """The least and the greatest weight of the wave with the index `number`, None for endless."""
    check_box(box)
    check_wave(wave)
    check_number(number, 0, len(box) - 1)
    table = settled(box, wave)[0]
    if table is None:
        raise NotAdded()
    return (least_weight(table, number), greatest_weight(table, number))


def needless_waves(box):
    """The ascending indexes of the waves that are added of all the others alone."""
    check_box(box)
    if len(box) == 1:
        return ()
    return tuple([at for at, wave in enumerate(box) if settled(box[:at] + box[at + 1:], wave)[0] is not None])
