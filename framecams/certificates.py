"""Certificates: pairs of a claim and a paper that the checker accepts, of two claims the one that is so."""

from framecams.alikes import are_alike
from framecams.cams import undercut_turn
from framecams.feet import missed_turn
from framecams.frames import bar, parting_harmonic
from framecams.lots import least_shared
from framecams.nevers import turn_above
from framecams.pairs import play_wave
from framecams.sizes import area
from framecams.speeds import leaving_turn
from framecams.stretches import turn_with
from framecams.sums import barring_wave, weights_for
from framecams.waves import wave_less


def certify_cam(wave):
    """That the wave is a cam, or not."""
    turn = undercut_turn(wave)
    return (("cam", wave), ()) if turn is None else (("no cam", wave), turn)


def certify_foot(cam, low, high):
    """That the foot is wide enough, or not."""
    turn = missed_turn(cam, low, high)
    return (("wide", cam, low, high), ()) if turn is None else (("not wide", cam, low, high), turn)


def certify_frame(wave, frame):
    """That the wave turns in the frame, or not."""
    found = bar(wave, frame)
    return (("turns in", wave, frame), ()) if found is None else (("barred", wave, frame), found)


def certify_frames(frame, other):
    """That both frames let the same harmonics, or not."""
    harmonic = parting_harmonic(frame, other)
    return (("same frames", frame, other), ()) if harmonic is None else (("unlike frames", frame, other), harmonic)


def certify_shared(frames):
    """Which is the least harmonic above 1 that all frames let."""
    return (("least shared", frames, least_shared(frames)), ())


def certify_play(cam, other, arms, turn):
    """That the cams go without play, or not."""
    wave = play_wave(cam, other, arms, turn)
    # Less its mean a wave is above 0 somewhere, and below 0, or it is the nought wave.
    swing = wave_less(wave, (wave[0], ()))
    high = turn_with(swing, 1)
    if high is None:
        return (("no play", cam, other, arms, turn), ())
    return (("play", cam, other, arms, turn), (high, turn_with(swing, -1)))


def certify_kept(cam, spring, square):
    """That the foot is kept on the cam, or not."""
    turn = leaving_turn(cam, spring, square)
    return (("kept", cam, spring, square), ()) if turn is None else (("not kept", cam, spring, square), turn)


def certify_within(cam, other, turn):
    """That the cam lies within the other one, turned by the turn, or not."""
    spot = turn_above(cam, other, turn)
    return (("within", cam, other, turn), ()) if spot is None else (("not within", cam, other, turn), spot)


def certify_alike(wave, other):
    """That the waves are alike, or not."""
    word = "alike" if are_alike(wave, other) else "unlike"
    return ((word, wave, other), ())


def certify_area(cam):
    """What the area of the cam is."""
    return (("area", cam, area(cam)), ())


def certify_box(box, wave):
    """That the wave is added of the box, or not."""
    weights = weights_for(box, wave)
    if weights is not None:
        return (("added", box, wave), weights)
    return (("not added", box, wave), barring_wave(box, wave))
