"""Flat feet: how wide they have to be, and between which walls a cam passes."""

from framecams.cams import breadth_wave, check_cam
from framecams.errors import InvalidGap
from framecams.leasts import greatest_near_of, least_near_of
from framecams.ratios import check_bounds, check_many, is_fraction_above
from framecams.stretches import is_always_above, is_never_below, turn_with
from framecams.waves import growth, times, wave_less

ALWAYS = "always"
SOMETIMES = "sometimes"
NEVER = "never"


def check_gap(gap):
    """Raise InvalidGap for what is no fraction above 0."""
    if not is_fraction_above(gap):
        raise InvalidGap(gap)


def is_wide_enough(cam, low, high):
    """Whether a foot from low to high is wide enough."""
    check_cam(cam)
    check_bounds(low, high)
    return stays_between(growth(cam), low, high)


def missed_turn(cam, low, high):
    """Any turn at which the growth is not from low up to high; None."""
    check_cam(cam)
    check_bounds(low, high)
    above, below = margins(growth(cam), low, high)
    turn = turn_with(above, -1)
    return turn if turn is not None else turn_with(below, -1)


def margins(wave, low, high):
    """How far the wave is above low, and below high: two waves."""
    return [wave_less(wave, (low, ())), wave_less((high, ()), wave)]


def stays_between(wave, low, high):
    """Whether the wave is from low up to high at all turns."""
    return all([is_never_below(margin) for margin in margins(wave, low, high)])


def touch_near(cam, many):
    """The least and the greatest growth, each near."""
    check_cam(cam)
    check_many(many)
    return both_near(growth(cam), many)


def breadth_near(cam, many):
    """The least and the greatest breadth, each near."""
    check_cam(cam)
    check_many(many)
    return both_near(breadth_wave(cam), many)


def both_near(wave, many):
    """The least and the greatest worth of the wave, each near."""
    return (least_near_of(wave, many), greatest_near_of(wave, many))


def is_even_broad(cam):
    """Whether the breadth is the same at all turns."""
    check_cam(cam)
    return len(breadth_wave(cam)[1]) == 0


def gap_word(cam, gap):
    """Whether the cam passes between walls with the gap at all turns, at some or at none."""
    check_cam(cam)
    check_gap(gap)
    room = room_in(cam, gap)
    if is_never_below(room):
        return ALWAYS
    return NEVER if is_always_above(times(room, (-1, 1))) else SOMETIMES


def gap_turn(cam, gap):
    """Any turn at which the cam passes; None if there is none told by fractions."""
    check_cam(cam)
    check_gap(gap)
    room = room_in(cam, gap)
    turn = turn_with(room, 1)
    return turn if turn is not None else turn_with(room, 0)


def room_in(cam, gap):
    """The gap less the breadth, a wave."""
    return wave_less((gap, ()), breadth_wave(cam))
