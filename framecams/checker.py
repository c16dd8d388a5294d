"""A small checker: which papers show that which claims are so."""

from framecams.alikes import are_alike
from framecams.cams import is_cam
from framecams.feet import is_wide_enough
from framecams.frames import DISTANCE, HARMONIC, MOST_HARMONIC, frame_number, is_frame, is_knot, is_let, knot_number
from framecams.frames import knots, turns_in
from framecams.lots import are_frames, least_shared
from framecams.nevers import OUT, within_word
from framecams.pairs import are_arms, goes_without_play, play_wave
from framecams.parts import fit
from framecams.ratios import are_bounds, is_below, is_fraction, is_fraction_from_0, is_whole, is_whole_within
from framecams.sizes import area
from framecams.speeds import bearing_wave, is_kept, is_spring
from framecams.sums import added, are_weights, is_barring, is_box
from framecams.turns import is_turn, join_turns
from framecams.waves import bend, growth, harmonics_of, is_wave, worth


def is_nothing(paper):
    """Whether the paper, whatever it is, is ()."""
    return isinstance(paper, tuple) and len(paper) == 0


def shows_cam(parts, paper):
    """A cam."""
    return fit(parts, [is_wave]) and is_nothing(paper) and is_cam(parts[0])


def shows_no_cam(parts, paper):
    """A wave that is no cam: a turn at which it is undercut."""
    return fit(parts, [is_wave]) and is_turn(paper) and worth(bend(parts[0]), paper)[0] < 0


def are_foot(parts):
    """Whether the parts are a cam and two bounds, the low one not above the high one."""
    return fit(parts, [is_cam, is_fraction, is_fraction]) and are_bounds(parts[1], parts[2])


def shows_wide(parts, paper):
    """A foot that is wide enough."""
    return are_foot(parts) and is_nothing(paper) and is_wide_enough(parts[0], parts[1], parts[2])


def shows_not_wide(parts, paper):
    """A foot that is not wide enough: a turn at which the growth is beyond its bounds."""
    if not are_foot(parts) or not is_turn(paper):
        return False
    beside = worth(growth(parts[0]), paper)
    return is_below(beside, parts[1]) or is_below(parts[2], beside)


def shows_turning(parts, paper):
    """A wave that turns in a frame."""
    return fit(parts, [is_wave, is_frame]) and is_nothing(paper) and turns_in(parts[0], parts[1])


def shows_barred(parts, paper):
    """A wave that does not turn in a frame: a bar."""
    if not fit(parts, [is_wave, is_frame]) or not isinstance(paper, tuple) or len(paper) == 0:
        return False
    wave, frame = parts
    if wave[0] != frame[2]:
        return is_word(paper[0], DISTANCE) and len(paper) == 1 and len(knots(frame)) > 0
    if len(paper) != 3 or not is_word(paper[0], HARMONIC):
        return False
    _, harmonic, knot = paper
    if not is_whole(harmonic) or harmonic not in harmonics_of(wave) or not is_knot(frame, knot):
        return False
    return not is_let(knot_number(frame, knot), harmonic)


def is_word(value, word):
    """Whether the value, whatever it is, is this word."""
    return isinstance(value, str) and value == word


def shows_same_frames(parts, paper):
    """Two frames that let the same harmonics."""
    if not fit(parts, [is_frame, is_frame]) or not is_nothing(paper):
        return False
    return frame_number(parts[0]) == frame_number(parts[1])


def shows_unlike_frames(parts, paper):
    """Two frames that do not: a harmonic that just one of them lets."""
    if not fit(parts, [is_frame, is_frame]) or not is_whole_within(paper, 1, MOST_HARMONIC):
        return False
    return is_let(frame_number(parts[0]), paper) != is_let(frame_number(parts[1]), paper)


def shows_least_shared(parts, paper):
    """The least harmonic above 1 that all frames let."""
    return fit(parts, [are_frames, is_whole]) and is_nothing(paper) and least_shared(parts[0]) == parts[1]


def are_pair(parts):
    """Whether the parts are two cams with arms and a turn."""
    return fit(parts, [is_cam, is_cam, are_arms, is_turn])


def shows_no_play(parts, paper):
    """Two cams that go without play."""
    return are_pair(parts) and is_nothing(paper) and goes_without_play(parts[0], parts[1], parts[2], parts[3])


def shows_play(parts, paper):
    """Two cams that do not: two turns at which their play wave is not worth the same."""
    if not are_pair(parts) or not isinstance(paper, tuple) or not fit(paper, [is_turn, is_turn]):
        return False
    wave = play_wave(parts[0], parts[1], parts[2], parts[3])
    return worth(wave, paper[0]) != worth(wave, paper[1])


def are_running(parts):
    """Whether the parts are a cam, a spring and a square."""
    return fit(parts, [is_cam, is_spring, is_fraction_from_0])


def shows_kept(parts, paper):
    """A foot that is kept on its cam."""
    return are_running(parts) and is_nothing(paper) and is_kept(parts[0], parts[1], parts[2])


def shows_not_kept(parts, paper):
    """A foot that is not: a turn at which it would bear less than nothing."""
    if not are_running(parts) or not is_turn(paper):
        return False
    return worth(bearing_wave(parts[0], parts[1], parts[2]), paper)[0] < 0


def shows_within(parts, paper):
    """A cam within another one."""
    if not fit(parts, [is_cam, is_cam, is_turn]) or not is_nothing(paper):
        return False
    return within_word(parts[0], parts[1], parts[2]) != OUT


def shows_not_within(parts, paper):
    """A cam that is not: a turn at which its lift is above the other one's."""
    if not fit(parts, [is_cam, is_cam, is_turn]) or not is_turn(paper):
        return False
    return is_below(worth(parts[1], join_turns(paper, parts[2])), worth(parts[0], paper))


def shows_alike(parts, paper):
    """Waves that are alike."""
    return fit(parts, [is_wave, is_wave]) and is_nothing(paper) and are_alike(parts[0], parts[1])


def shows_unlike(parts, paper):
    """Waves that are not."""
    return fit(parts, [is_wave, is_wave]) and is_nothing(paper) and not are_alike(parts[0], parts[1])


def shows_area(parts, paper):
    """The area of a cam."""
    return fit(parts, [is_cam, is_fraction]) and is_nothing(paper) and area(parts[0]) == parts[1]


def shows_added(parts, paper):
    """A wave that is added of a box: weights by which it is."""
    return fit(parts, [is_box, is_wave]) and are_weights(parts[0], paper) and added(parts[0], paper) == parts[1]


def shows_not_added(parts, paper):
    """A wave that is not: a barring wave."""
    return fit(parts, [is_box, is_wave]) and is_barring(parts[0], parts[1], paper)


# For each word of a claim the function that takes what stands behind it, and a paper.
SHOWING = {
    "cam": shows_cam, "no cam": shows_no_cam, "wide": shows_wide, "not wide": shows_not_wide,
    "turns in": shows_turning, "barred": shows_barred, "same frames": shows_same_frames,
    "unlike frames": shows_unlike_frames, "least shared": shows_least_shared, "no play": shows_no_play,
    "play": shows_play, "kept": shows_kept, "not kept": shows_not_kept, "within": shows_within,
    "not within": shows_not_within, "alike": shows_alike, "unlike": shows_unlike, "area": shows_area,
    "added": shows_added, "not added": shows_not_added,
}


def accepts(claim, paper):
    """Whether the claim is one for the checker, and the paper one for it."""
    if not isinstance(claim, tuple) or len(claim) == 0 or not isinstance(claim[0], str) or claim[0] not in SHOWING:
        return False
    shows = SHOWING[claim[0]]
    return shows(claim[1:], paper)
