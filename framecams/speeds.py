"""Springs and speeds: whether the foot stays on the cam, how sharply it presses, how hard it turns."""

from framecams.cams import check_cam, is_smooth
from framecams.errors import InvalidSpring, InvalidSquare, NotKept, NotPressed, NotSmooth
from framecams.feet import both_near
from framecams.leasts import greatest_share_near, last_held, rest_of
from framecams.ratios import check_fraction, check_many, is_fraction, is_fraction_above, is_fraction_from_0
from framecams.ratios import ratio_product
from framecams.stretches import count_zeros, is_never_below, turn_with
from framecams.turns import check_turn
from framecams.waves import bend, growth, plus, times, wave_less, worth
from framecams.wholes import wave_product


def is_spring(value):
    """Whether the value, whatever it is, is a triple (MASS, STIFF, PRESS)."""
    if not isinstance(value, tuple) or len(value) != 3:
        return False
    mass, stiff, press = value
    return is_fraction_above(mass) and is_fraction_above(stiff) and is_fraction(press)


def check_spring(spring):
    """Raise InvalidSpring for what is no spring."""
    if not is_spring(spring):
        raise InvalidSpring(spring)


def check_square(square):
    """Raise InvalidSquare for what is no fraction from 0 on."""
    if not is_fraction_from_0(square):
        raise InvalidSquare(square)


def check_running(cam, spring, square):
    """Raise the errors for a cam, its spring and the square of its speed."""
    check_cam(cam)
    check_spring(spring)
    check_square(square)


def pressed_wave(cam, spring):
    """What the spring presses with on a cam at rest, a wave."""
    _, stiff, press = spring
    return times(plus(cam, (press, ())), stiff)


def thrown_wave(cam, spring):
    """What the foot is thrown away with at the square 1, a wave: MASS times - h''."""
    # What the growth grows by is the bend less the cam.
    return times(wave_less(cam, bend(cam)), spring[0])


def borne_wave(cam, spring, square):
    """Like bearing_wave, for what surely is a cam, a spring and a square."""
    return wave_less(pressed_wave(cam, spring), times(thrown_wave(cam, spring), square))


def bearing_wave(cam, spring, square):
    """What the foot bears on the cam, a wave."""
    check_running(cam, spring, square)
    return borne_wave(cam, spring, square)


def is_kept(cam, spring, square):
    """Whether the foot is kept on the cam."""
    check_running(cam, spring, square)
    return is_never_below(borne_wave(cam, spring, square))


def leaving_turn(cam, spring, square):
    """Any turn at which the foot is not kept; None."""
    check_running(cam, spring, square)
    return turn_with(borne_wave(cam, spring, square), -1)


def square_near(cam, spring, many):
    """The greatest square at which the foot is kept, near; None if it is kept at all squares."""
    check_cam(cam)
    check_spring(spring)
    check_many(many)
    pressed, thrown = pressed_wave(cam, spring), thrown_wave(cam, spring)
    if not is_never_below(pressed):
        raise NotPressed()
    if len(thrown[1]) == 0:
        return None
    n = last_held(pressed, thrown, many)
    return (n, is_last(pressed, rest_of(pressed, thrown, n, many)))


def is_last(pressed, borne):
    """Whether the foot is not kept at any square above the one at which it bears `borne`.

    Both waves are nowhere below 0. A greater square takes the foot off where it bears
    nothing though it is pressed, so is thrown away. Where it is not pressed either, the lift
    is least: beside such a turn h'' is above 0, and a greater square does not take it off
    there. These turns are the zeros of both waves added.
    """
    return count_zeros(borne) != count_zeros(plus(borne, pressed))


def presses_at_most(cam, spring, square, level):
    """Whether the greatest pressing is at most the level."""
    check_running(cam, spring, square)
    check_fraction(level)
    check_pressing(cam, spring, square)
    return is_never_below(wave_less(times(bend(cam), level), borne_wave(cam, spring, square)))


def pressing_near(cam, spring, square, many):
    """The greatest pressing, near."""
    check_running(cam, spring, square)
    check_many(many)
    check_pressing(cam, spring, square)
    return greatest_share_near(borne_wave(cam, spring, square), bend(cam), many)


def check_pressing(cam, spring, square):
    """Raise NotSmooth for a cam that is not smooth, NotKept if the foot is not kept on it."""
    if not is_smooth(cam):
        raise NotSmooth()
    if not is_never_below(borne_wave(cam, spring, square)):
        raise NotKept()


def turning_at(cam, spring, square, turn):
    """The turning force at the turn, a fraction."""
    check_running(cam, spring, square)
    check_turn(turn)
    return ratio_product(worth(borne_wave(cam, spring, square), turn), worth(growth(cam), turn))


def turning_near(cam, spring, square, many):
    """The least and the greatest turning force, each near."""
    check_running(cam, spring, square)
    check_many(many)
    force = wave_product(borne_wave(cam, spring, square), growth(cam))
    return both_near(force, many)
