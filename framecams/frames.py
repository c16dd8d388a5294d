"""Frames of flat feet, and which harmonics they let turn.

What a frame lets is settled by remainders by one number of it ([20] of the document).
"""

from itertools import combinations
from math import gcd

from framecams.errors import InvalidDistance, InvalidFrame, InvalidHarmonic, InvalidKnot
from framecams.ratios import check_number, is_fraction_above, is_whole, is_whole_within
from framecams.waves import check_wave, harmonics_of

LEAST_N = 2
MOST_N = 60
LEAST_FEET = 2
MOST_FEET = 8
MOST_LETTING = 600
MOST_HARMONIC = 10 ** 12
DISTANCE = "distance"
HARMONIC = "harmonic"


def is_frame(value):
    """Whether the value is a frame, whatever it is."""
    if not isinstance(value, tuple) or len(value) != 3:
        return False
    n, marks, distance = value
    if not is_whole_within(n, LEAST_N, MOST_N) or not isinstance(marks, tuple):
        return False
    if not LEAST_FEET <= len(marks) <= MOST_FEET or not is_fraction_above(distance):
        return False
    if not all([is_whole_within(mark, 0, n - 1) for mark in marks]):
        return False
    return all([marks[at - 1] < marks[at] for at in range(1, len(marks))])


def check_frame(frame):
    """Raise InvalidFrame for what is no frame."""
    if not is_frame(frame):
        raise InvalidFrame(frame)


def check_distance(distance):
    """Raise InvalidDistance for what is no fraction above 0."""
    if not is_fraction_above(distance):
        raise InvalidDistance(distance)


def check_harmonic(harmonic):
    """Raise InvalidHarmonic for what is no number of a harmonic."""
    if not is_whole_within(harmonic, 1, MOST_HARMONIC):
        raise InvalidHarmonic(harmonic)


def regular(number, distance):
    """The regular frame with this number of feet."""
    check_number(number, LEAST_FEET, MOST_FEET)
    check_distance(distance)
    return (number, tuple(range(number)), distance)


def are_opposite(n, one, other):
    """Whether two marks among n are opposite, or the same."""
    return 2 * (one - other) % n == 0


def knots(frame):
    """The ascending tuple of all knots of the frame."""
    check_frame(frame)
    return tuple(knots_of(frame))


def knots_of(frame):
    """The list of all knots of what surely is a frame, ascending."""
    n = frame[0]
    marks = list(frame[1])
    pairs = [(a, b) for a, b in combinations(marks, 2) if are_opposite(n, a, b)]
    threes = [three for three in combinations(marks, 3) if not has_opposite(n, list(three))]
    return sorted(pairs + threes)


def has_opposite(n, marks):
    """Whether two of a list of unlike marks are opposite."""
    return any([are_opposite(n, a, b) for a, b in combinations(marks, 2)])


def knot_number(frame, knot):
    """The number of the knot."""
    check_frame(frame)
    check_knot(frame, knot)
    return spread(frame[0], knot)


def check_knot(frame, knot):
    """Raise InvalidKnot for what is no knot of the frame."""
    if not is_knot(frame, knot):
        raise InvalidKnot(knot)


def is_knot(frame, value):
    """Whether the value, whatever it is, is a knot of what surely is a frame."""
    return isinstance(value, tuple) and all([is_whole(mark) for mark in value]) and value in knots_of(frame)


def spread(n, marks):
    """N divided by the greatest common divisor of it and all differences of the marks."""
    shared = n
    for mark in marks:
        shared = gcd(shared, mark - marks[0])
    return n // shared


def frame_number(frame):
    """The number of the frame."""
    check_frame(frame)
    return number_of_marks(frame[0], list(frame[1]))


def number_of_marks(n, marks):
    """The number of a frame with this N and this list of two marks or more."""
    if not has_opposite(n, marks):
        return 1 if len(marks) == 2 else spread(n, marks)
    # Each foot is in line with the first one, with the first one that is not, or with none of both.
    others = [mark for mark in marks if not are_opposite(n, mark, marks[0])]
    if all([are_opposite(n, mark, others[0]) for mark in others]):
        return 2
    return spread(n, marks)


def is_let(number, harmonic):
    """Whether the harmonic less 1, or and 1, is a multiple of the number."""
    return (harmonic - 1) % number == 0 or (harmonic + 1) % number == 0


def lets(frame, harmonic):
    """Whether the frame lets the harmonic."""
    check_frame(frame)
    check_harmonic(harmonic)
    return is_let(frame_number(frame), harmonic)


def letting(frame, most):
    """The ascending tuple of the harmonics up to `most` that the frame lets."""
    check_frame(frame)
    check_number(most, 1, MOST_LETTING)
    number = frame_number(frame)
    return tuple([harmonic for harmonic in range(1, most + 1) if is_let(number, harmonic)])


def turns_in(wave, frame):
    """Whether the wave, a cam or not, turns in the frame."""
    return bar(wave, frame) is None


def bar(wave, frame):
    """The first bar that keeps the wave from turning in the frame; None if it does."""
    check_wave(wave)
    check_frame(frame)
    found = knots_of(frame)
    if len(found) == 0:
        return None
    if wave[0] != frame[2]:
        return (DISTANCE,)
    for harmonic in harmonics_of(wave):
        for knot in found:
            if not is_let(spread(frame[0], knot), harmonic):
                return (HARMONIC, harmonic, knot)
    return None


def regular_numbers(wave):
    """The ascending tuple of the numbers from 2 on that let each harmonic but 1; None if there is none of these."""
    check_wave(wave)
    harmonics = [harmonic for harmonic in harmonics_of(wave) if harmonic > 1]
    if len(harmonics) == 0:
        return None
    # A number that divides one more or one less than a harmonic is not above that.
    return tuple([n for n in range(2, harmonics[0] + 2) if all([is_let(n, harmonic) for harmonic in harmonics])])


def parting_harmonic(frame, other):
    """The least harmonic that just one of both frames lets; None."""
    check_frame(frame)
    check_frame(other)
    one, two = frame_number(frame), frame_number(other)
    # Unlike numbers, not above N, part the harmonics up to N.
    for harmonic in range(1, MOST_N + 1):
        if is_let(one, harmonic) != is_let(two, harmonic):
            return harmonic
    return None


def needless_feet(frame):
    """The ascending tuple of the marks of the frame's needless feet."""
    check_frame(frame)
    n, marks, _ = frame
    if len(marks) == LEAST_FEET:
        return ()
    number = frame_number(frame)
    return tuple([mark for mark in marks if number_of_marks(n, [kept for kept in marks if kept != mark]) == number])
