"""Pairs of cams on one shaft that drive one lever, with play or without."""

from framecams.cams import check_cam, is_cam
from framecams.errors import InvalidArms
from framecams.leasts import greatest_near_of
from framecams.ratios import check_fraction, check_many, is_fraction_above
from framecams.turns import back, check_turn
from framecams.waves import bend, harmonics_of, plus, times, turned


def are_arms(value):
    """Whether the value, whatever it is, is a pair of fractions above 0."""
    return isinstance(value, tuple) and len(value) == 2 and all([is_fraction_above(arm) for arm in value])


def check_arms(arms):
    """Raise InvalidArms for what are no arms."""
    if not are_arms(arms):
        raise InvalidArms(arms)


def play_wave(cam, other, arms, turn):
    """What both feet and the arms of the lever add up to, a wave."""
    check_cam(cam)
    check_cam(other)
    check_arms(arms)
    check_turn(turn)
    return plus(times(cam, arms[0]), times(turned(other, turn), arms[1]))


def goes_without_play(cam, other, arms, turn):
    """Whether the cams go without play."""
    return len(playing_harmonics(cam, other, arms, turn)) == 0


def playing_harmonics(cam, other, arms, turn):
    """The ascending tuple of the harmonics that play."""
    return harmonics_of(play_wave(cam, other, arms, turn))


def pair_width(cam, other, arms, turn):
    """The width at which the cams go without play, None if they play."""
    width, pairs = play_wave(cam, other, arms, turn)
    return width if len(pairs) == 0 else None


def mate(cam, arms, turn, width):
    """The wave with which, as that of the second one, the cam goes without play at this width."""
    check_cam(cam)
    check_arms(arms)
    check_turn(turn)
    check_fraction(width)
    (a, k), (b, m) = arms
    left = plus((width, ()), times(turned(cam, back(turn)), (-a, k)))
    return times(left, (m, b))


def is_mate_cam(cam, arms, turn, width):
    """Whether the mate of the cam is a cam."""
    return is_cam(mate(cam, arms, turn, width))


def width_near(cam, arms, many):
    """The least whole number n such that at the width n / many the mate is a cam, whatever the turn."""
    check_cam(cam)
    check_arms(arms)
    check_many(many)
    n, is_just = greatest_near_of(times(bend(cam), arms[0]), many)
    return n if is_just else n + 1
