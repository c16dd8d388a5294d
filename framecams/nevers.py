"""Never above: a cam within another one, and two cams that carry one foot."""

from framecams.cams import check_cam
from framecams.leasts import least_near_of
from framecams.ratios import check_many, is_below
from framecams.stretches import is_always_above, is_never_below, signs_of, turn_with
from framecams.turns import check_turn, join_turns
from framecams.waves import turned, wave_less, worth

FREE = "free"
TOUCHES = "touches"
OUT = "out"
FIRST = "first"
OTHER = "other"
BOTH = "both"
IN_TURNS = "in turns"


def check_two(cam, other, turn):
    """Raise the errors for two cams and the turn of the other one."""
    check_cam(cam)
    check_cam(other)
    check_turn(turn)


def lead_of(cam, other, turn):
    """The lift of the cam less that of the other one, so turned, for what surely are two cams and a turn."""
    return wave_less(cam, turned(other, turn))


def room_of(cam, other, turn):
    """What the cam has to spare at each turn, a wave."""
    return wave_less(turned(other, turn), cam)


def within_word(cam, other, turn):
    """Whether the cam lies within the other one, so turned, without touching it, touching it, or not."""
    check_two(cam, other, turn)
    room = room_of(cam, other, turn)
    if is_always_above(room):
        return FREE
    return TOUCHES if is_never_below(room) else OUT


def turn_above(cam, other, turn):
    """Any turn at which the cam's lift is above the other one's, so turned; None."""
    check_two(cam, other, turn)
    return turn_with(lead_of(cam, other, turn), 1)


def spare_near(cam, other, turn, many):
    """How much the cam has to spare within the other one, so turned, near."""
    check_two(cam, other, turn)
    check_many(many)
    return least_near_of(room_of(cam, other, turn), many)


def carrying_row(cam, other, turn):
    """The row of the difference: 1 where the cam carries the foot alone, -1 where the other one does."""
    check_two(cam, other, turn)
    return signs_of(lead_of(cam, other, turn))


def handed_over(cam, other, turn):
    """How often the carrying is handed over on the whole round."""
    row = carrying_row(cam, other, turn)
    # Ahead of the first stretch lies the last one.
    return len([at for at in range(len(row)) if row[at] != row[at - 1]])


def carry_word(cam, other, turn):
    """Which of both cams carries the foot."""
    row = carrying_row(cam, other, turn)
    if row == (0,):
        return BOTH
    if -1 not in row:
        return FIRST
    return IN_TURNS if 1 in row else OTHER


def lift_of_two(cam, other, turn, spot):
    """What the foot stands at, the first cam being turned by the spot."""
    check_two(cam, other, turn)
    check_turn(spot)
    one, two = worth(cam, spot), worth(other, join_turns(spot, turn))
    return two if is_below(one, two) else one
