"""Lots of frames and of harmonics: what all let, and how many feet a frame may have."""

from math import gcd, isqrt, lcm

from framecams.errors import InvalidFrames, InvalidHarmonics
from framecams.frames import LEAST_N, MOST_FEET, MOST_N, check_distance, check_harmonic, frame_number, is_frame, is_let
from framecams.ratios import check_number, is_whole_within

MOST_FRAMES = 6
MOST_HARMONICS_TOLD = 6
MOST_HARMONIC_TOLD = 10 ** 6


def check_frames(frames):
    """Raise InvalidFrames for what is no tuple of one to six frames."""
    if not isinstance(frames, tuple) or len(frames) == 0:
        raise InvalidFrames(None)
    for index, frame in enumerate(frames):
        if index >= MOST_FRAMES or not is_frame(frame):
            raise InvalidFrames(index)


def check_harmonics(harmonics):
    """Raise InvalidHarmonics for what is no ascending tuple of one to six harmonics above 1."""
    if not isinstance(harmonics, tuple) or len(harmonics) == 0:
        raise InvalidHarmonics(None)
    least = 2
    for index, harmonic in enumerate(harmonics):
        if index >= MOST_HARMONICS_TOLD or not is_whole_within(harmonic, least, MOST_HARMONIC_TOLD):
            raise InvalidHarmonics(index)
        least = harmonic + 1


def are_frames(value):
    """Whether the value, whatever it is, is a tuple of one to six frames."""
    if not isinstance(value, tuple) or not 1 <= len(value) <= MOST_FRAMES:
        return False
    return all([is_frame(frame) for frame in value])


def shares(frames, harmonic):
    """Whether all frames let the harmonic."""
    check_frames(frames)
    check_harmonic(harmonic)
    return all([is_let(frame_number(frame), harmonic) for frame in frames])


def least_shared(frames):
    """The least harmonic from 2 on that all frames let.

    Those that some frames let are all with some remainders by the least common multiple
    of their numbers; for each further frame each of these leads to some by the new one.
    """
    check_frames(frames)
    remainders = [0]
    whole = 1
    for number in [frame_number(frame) for frame in frames]:
        steps = number // gcd(whole, number)
        wider = [remainder + whole * step for remainder in remainders for step in range(steps)]
        remainders = [remainder for remainder in wider if is_let(number, remainder)]
        whole = lcm(whole, number)
    return min([2 + (remainder - 2) % whole for remainder in remainders])


def good_numbers(harmonics):
    """The ascending tuple of all numbers that are good for the harmonics."""
    check_harmonics(harmonics)
    return tuple(good_ones(harmonics))


def good_ones(harmonics):
    """The list of all numbers that are good for what surely are harmonics, ascending."""
    found = divisors(harmonics[0] - 1) + divisors(harmonics[0] + 1)
    return sorted({number for number in found if all([is_let(number, harmonic) for harmonic in harmonics])})


def divisors(number):
    """The list of all whole numbers from 1 on that divide the number, which is above 0."""
    small = [n for n in range(1, isqrt(number) + 1) if number % n == 0]
    return small + [number // n for n in small]


def most_feet(number, harmonics):
    """The most feet, on N = number marks, for the harmonics."""
    check_number(number, LEAST_N, MOST_N)
    check_harmonics(harmonics)
    counts = [good for good in good_ones(harmonics) if good >= 3 and number % good == 0]
    if let_pairs(number, harmonics):
        counts.append(4)
    if number > 2 or are_odd(harmonics):
        counts.append(2)
    return max(counts + [1])


def are_odd(harmonics):
    """Whether all harmonics are odd."""
    return all([harmonic & 1 == 1 for harmonic in harmonics])


def let_pairs(number, harmonics):
    """Whether two pairs of opposite feet among so many marks let the harmonics."""
    return number & 1 == 0 and number > 2 and are_odd(harmonics)


def widest_frame(number, harmonics, distance):
    """Any frame on N = number marks that lets the harmonics, with the most feet, or eight; None."""
    check_number(number, LEAST_N, MOST_N)
    check_harmonics(harmonics)
    check_distance(distance)
    most = most_feet(number, harmonics)
    if most == 1:
        return None
    marks = (0, 1)
    if most > 2 and most in good_ones(harmonics) and number % most == 0:
        marks = tuple(range(0, number, number // most))[:MOST_FEET]
    elif most > 2:
        marks = (0, 1, number // 2, number // 2 + 1)
    return (number, marks, distance)
