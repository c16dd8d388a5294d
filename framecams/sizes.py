"""Sizes of cams: ways round, areas, mixed areas, moments, middles, deficits and gaps.

All are told as the fraction that is to be taken times pi, or times pi * pi.
"""

from framecams.cams import check_cam
from framecams.errors import IsPoint
from framecams.ratios import NOUGHT, ratio_negative, ratio_product, ratio_sum, ratio_times
from framecams.waves import bend, growth, moved, pair_product, wave_less, wave_sum
from framecams.wholes import wave_product

HALF = (1, 2)
TWO_THIRDS = (2, 3)
COSINE = ((0, 1), (((1, 1), (0, 1)),))
SINE = ((0, 1), (((0, 1), (1, 1)),))


def mean_product(wave, other):
    """The mean, over all turns, of both waves multiplied."""
    total = NOUGHT
    for pair, beside in zip(wave[1], other[1]):
        total = ratio_sum(total, pair_product(pair, beside))
    return ratio_sum(ratio_product(wave[0], other[0]), ratio_product(total, HALF))


def way_round(cam):
    """How long the way round the cam is, over pi."""
    check_cam(cam)
    return ratio_times(cam[0], 2)


def area(cam):
    """The area of the cam, over pi."""
    check_cam(cam)
    return shared_area(cam, cam)


def mixed_area(cam, other):
    """The mixed area of both cams, over pi."""
    check_cam(cam)
    check_cam(other)
    return shared_area(cam, other)


def shared_area(cam, other):
    """Like mixed_area, for what surely are cams: the mean of the one's lift times the other one's radius."""
    return mean_product(cam, bend(other))


def moments(cam):
    """The moments of the cam about the axle, over pi."""
    check_cam(cam)
    share = wave_product(cam, bend(cam))
    beside = growth(cam)
    x = wave_less(wave_product(cam, COSINE), wave_product(beside, SINE))
    y = wave_sum(wave_product(cam, SINE), wave_product(beside, COSINE))
    return (ratio_product(TWO_THIRDS, mean_product(share, x)), ratio_product(TWO_THIRDS, mean_product(share, y)))


def middle(cam):
    """The middle of the cam, counted from the axle; None for a point."""
    x, y = moments(cam)
    if cam[0] == NOUGHT:
        return None
    n, m = shared_area(cam, cam)
    return (ratio_product(x, (m, n)), ratio_product(y, (m, n)))


def is_balanced(cam):
    """Whether both moments of the cam are 0."""
    return moments(cam) == (NOUGHT, NOUGHT)


def balanced(cam):
    """The cam with the axle at its middle."""
    place = middle(cam)
    if place is None:
        raise IsPoint()
    return moved(cam, (ratio_negative(place[0]), ratio_negative(place[1])))


def deficit(cam):
    """The square of the way round less 4 pi times the area, over pi * pi."""
    check_cam(cam)
    way = ratio_times(cam[0], 2)
    return ratio_sum(ratio_product(way, way), ratio_times(shared_area(cam, cam), -4))


def mixed_gap(cam, other):
    """The square of the mixed area less the product of both areas, over pi * pi."""
    mixed = mixed_area(cam, other)
    both = ratio_product(shared_area(cam, cam), shared_area(other, other))
    return ratio_sum(ratio_product(mixed, mixed), ratio_negative(both))
