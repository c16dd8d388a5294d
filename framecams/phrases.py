"""The lines that a console takes, and how numbers, waves, turns and frames are written in them."""

from framecams.cams import is_cam
from framecams.frames import is_frame
from framecams.parts import is_name
from framecams.ratios import is_fraction
from framecams.turns import WEST, turn_of

DIGITS = "0123456789"
WEST_WORD = "west"
PUT = "put"
DROP = "drop"
UNDO = "undo"
NAMES = "names"
CAM = "cam"
LIFT = "lift"
TOUCH = "touch"
SIZE = "size"
FRAME = "frame"


def phrase_of(line):
    """The triple of word, name and value that the line tells, None for what it has not; None for no phrase."""
    if not isinstance(line, str):
        return None
    if line == UNDO or line == NAMES:
        return (line, None, None)
    word, _, rest = line.partition(" ")
    if word == DROP or word == CAM or word == SIZE:
        return (word, rest, None) if is_name(rest) else None
    name, _, text = rest.partition(": ")
    value = value_of(word, text)
    return (word, name, value) if is_name(name) and value is not None else None


def value_of(word, text):
    """What the text stands for behind a name and this word; None if nothing."""
    if word == PUT:
        return cam_of(text)
    if word == LIFT or word == TOUCH:
        return turn_of_text(text)
    return frame_of(text) if word == FRAME else None


def whole_of(text):
    """The whole number that `str` writes so; None."""
    digits = text[1:] if text.startswith("-") else text
    if digits == "" or not all([sign in DIGITS for sign in digits]):
        return None
    # No noughts ahead of other figures, and no nought below 0.
    if digits.startswith("0") and text != "0":
        return None
    return int(text)


def fraction_of(text):
    """The fraction that is written so; None."""
    n, _, m = text.partition("/")
    found = (whole_of(n), whole_of(m))
    return found if is_fraction(found) else None


def pair_of(text):
    """The pair of fractions, with a blank between, of which each may be None."""
    one, _, other = text.partition(" ")
    return (fraction_of(one), fraction_of(other))


def cam_of(text):
    """The cam that is written so; None."""
    parts = text.split("; ")
    wave = (fraction_of(parts[0]), tuple([pair_of(part) for part in parts[1:]]))
    return wave if is_cam(wave) else None


def turn_of_text(text):
    """The turn that is written so; None."""
    if text == WEST_WORD:
        return WEST
    half = fraction_of(text)
    return None if half is None else turn_of(half)


def frame_of(text):
    """The frame that is written so; None."""
    parts = text.split(" ")
    frame = (whole_of(parts[0]), tuple([whole_of(part) for part in parts[1:-1]]), fraction_of(parts[-1]))
    return frame if is_frame(frame) else None


def fraction_text(fraction):
    """How the fraction is written."""
    return f"{fraction[0]}/{fraction[1]}"


def wave_text(wave):
    """How the wave is written."""
    first, pairs = wave
    texts = [fraction_text(p) + " " + fraction_text(q) for p, q in pairs]
    return "; ".join([fraction_text(first)] + texts)
