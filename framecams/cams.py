"""Cams: waves whose bend is nowhere below 0."""

from framecams.errors import InvalidCam
from framecams.leasts import greatest_near_of
from framecams.ratios import check_many, ratio_negative, ratio_product, ratio_sum, ratio_times
from framecams.stretches import is_always_above, is_never_below, turn_with
from framecams.turns import check_turn
from framecams.waves import BLANK, bend, check_wave, growth, is_wave, made_wave, times, worth

INSIDE = "inside"
RIM = "rim"
OUTSIDE = "outside"


def is_cam(value):
    """Whether the value is a cam, whatever it is."""
    return is_wave(value) and is_never_below(bend(value))


def is_smooth(value):
    """Whether the value is a smooth cam, whatever it is."""
    return is_wave(value) and is_always_above(bend(value))


def check_cam(cam):
    """Raise InvalidCam for what is no cam."""
    if not is_cam(cam):
        raise InvalidCam(cam)


def undercut_turn(wave):
    """Any turn at which the wave is undercut; None."""
    check_wave(wave)
    return turn_with(bend(wave), -1)


def ground_near(wave, many):
    """The ground of the wave, near."""
    check_wave(wave)
    check_many(many)
    return greatest_near_of(times(bend(wave), (-1, 1)), many)


def point_at(cam, turn):
    """The point at which the cam touches its line at the turn."""
    check_cam(cam)
    check_turn(turn)
    lift, beside = worth(cam, turn), worth(growth(cam), turn)
    c, s = turn
    x = ratio_sum(ratio_product(lift, c), ratio_negative(ratio_product(beside, s)))
    y = ratio_sum(ratio_product(lift, s), ratio_product(beside, c))
    return (x, y)


def axle_word(cam):
    """Where the axle lies."""
    check_cam(cam)
    if is_always_above(cam):
        return INSIDE
    return RIM if is_never_below(cam) else OUTSIDE


def breadth_of(cam):
    """The breadth of the cam, a wave."""
    check_cam(cam)
    return breadth_wave(cam)


def breadth_wave(cam):
    """Like breadth_of, for what surely is a cam."""
    first, pairs = cam
    twice = [BLANK if j & 1 else (ratio_times(p, 2), ratio_times(q, 2)) for j, (p, q) in enumerate(pairs, start=1)]
    return made_wave(ratio_times(first, 2), twice)
