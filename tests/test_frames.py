"""Frames: knots, numbers, which harmonics are let, bars, needless feet; against the feet themselves."""

import itertools
import math
import unittest
from random import Random

from framecams.frames import bar, frame_number, is_frame, knot_number, knots, lets, letting, needless_feet
from framecams.frames import parting_harmonic, regular, regular_numbers, turns_in
from tests.shapes import FINEST, MANY_CAM, NOUGHT, POINT, TINY, less, made, opposite, raised
from tests.values import BIG, EGG, HALF, Hostile, NIL, NOT_FRACTIONS, NO_VALUES, NUMBERS, ONE, OVAL, ROUND_CAM, TWO

SQUARE, TRIANGLE = (4, (0, 1, 2, 3), ONE), (3, (0, 1, 2), ONE)
CORNER, RHOMB = (12, (0, 4, 7), ONE), (30, (2, 7, 17, 22), ONE)
# Two feet that are not opposite, and that are; marks with a common divisor; three feet, two of them opposite.
OPEN, FACING, EVEN, HALVED = (7, (0, 3), TWO), (2, (0, 1), ONE), (60, (0, 20, 40), ONE), (60, (1, 7, 31), HALF)
FRAMES = (
    SQUARE, TRIANGLE, CORNER, RHOMB, OPEN, FACING, EVEN, HALVED, (4, (0, 2), ONE), (4, (1, 2), ONE), (60, (0, 59), ONE),
    (60, (0, 30), TINY), (60, (0, 1, 2, 3, 4, 5, 6, 7), (BIG, 3)), (60, (3, 9, 21, 33, 39, 45, 51, 57), ONE),
    (59, (0, 1, 2), ONE), (59, (5, 9), ONE), (6, (0, 1, 3, 4, 5), ONE), (6, (0, 2, 4, 5), ONE), (8, (0, 2, 4, 6), ONE),
    (8, (0, 1, 4, 5), ONE), (8, (0, 1, 4, 6), ONE), (8, (0, 1, 2, 3, 4, 5, 6, 7), ONE), (9, (0, 3, 6), ONE),
    (9, (1, 3, 6), ONE), (12, (0, 3, 6, 9), ONE), (12, (0, 1, 6, 9), ONE), (24, (0, 6, 12, 15), ONE), (5, (0, 1), ONE),
    (3, (1, 2), ONE), (2, (0, 1), HALF),
)
NOT_FRAMES = NO_VALUES + NUMBERS + (
    ONE, OVAL, (), (4,), (4, (0, 1)), (4, (0, 1), ONE, ONE), [4, (0, 1), ONE], (4, [0, 1], ONE), (4, (0, 1), [1, 1]),
    (1, (0, 1), ONE), (61, (0, 1), ONE), (0, (0, 1), ONE), (-4, (0, 1), ONE), (True, (0, 1), ONE), ("4", (0, 1), ONE),
    (None, (0, 1), ONE), (BIG, (0, 1), ONE), (4, (), ONE), (4, (0,), ONE), (4, 0, ONE), (4, None, ONE), (4, "01", ONE),
    (4, {0: 1, 1: 1}, ONE), (60, tuple(range(9)), ONE), (60, tuple(range(60)), ONE), (4, (0, 4), ONE),
    (4, (-1, 0), ONE), (4, (0, 0), ONE), (4, (1, 0), ONE), (4, (0, 2, 1), ONE), (4, (0, 2, 2), ONE),
    (4, (0, True), ONE), (4, (False, 1), ONE), (4, (0, None), ONE), (4, (0, "1"), ONE), (4, (0, (1,)), ONE),
    (4, (0, BIG), ONE), (4, (0, 1), NIL), (4, (0, 1), (-1, 2)), (4, (0, 1), 1), (4, (0, 1), (2, 2)),
    (4, (0, 1), (True, 1)), (4, (0, 1), (1, 0)), (4, (0, 1), None), (Hostile(), (0, 1), ONE), (4, Hostile(), ONE),
    (4, (Hostile(), 1), ONE), (4, (0, Hostile()), ONE), (4, (0, 1), Hostile()), (4, (0, 1), (1, Hostile())),
)
HARMONICS = (1, 2, 3, 4, 5, 7, 11, 13, 29, 31, 59, 60, 61, 10 ** 6, FINEST - 1, FINEST)


def some_frames(seed, many):
    source = Random(seed)
    found = []
    for _ in range(many):
        n = source.choice((source.randint(2, 12), source.randint(2, 60)))
        marks = source.sample(range(n), source.randint(2, min(8, n)))
        if n % 2 == 0 and source.random() < 0.4:
            # Opposite feet come seldom by themselves.
            marks = [mark for mark in marks[:4]] + [(mark + n // 2) % n for mark in marks[:2]]
        found.append((n, tuple(sorted(set(marks))), ONE))
    return tuple(frame for frame in found if is_frame(frame))


SOME = FRAMES + some_frames(1, 150)


def are_opposite(n, a, b):
    return 2 * (a - b) % n == 0


def told_knots(frame):
    """All knots, as told: of all tuples of two and of three of the marks."""
    n, marks, _ = frame
    twos = [two for two in itertools.combinations(marks, 2) if are_opposite(n, *two)]
    threes = [three for three in itertools.combinations(marks, 3)
              if not any(are_opposite(n, a, b) for a, b in itertools.combinations(three, 2))]
    return tuple(sorted(twos + threes))


def told_number(n, knot):
    shared = math.gcd(n, *[a - b for a, b in itertools.combinations(knot, 2)])
    return n // shared


def knot_lets(n, knot, j):
    number = told_number(n, knot)
    return (j - 1) % number == 0 or (j + 1) % number == 0


def is_let(frame, j):
    """Whether all knots let it."""
    return all(knot_lets(frame[0], knot, j) for knot in told_knots(frame))


def is_touched(frame, j):
    """Whether for each turn some place of the axle lets the harmonic touch all feet.

    The numbers cos (j a) and sin (j a), for the angles a of the feet, have to be
    x * cos a + y * sin a for some x and y: then no three feet, and no two feet in one
    line, make them anything else.
    """
    n, marks, _ = frame
    angles = [math.tau * mark / n for mark in marks]
    wanted = [[math.cos(j * mark % n * math.tau / n), math.sin(j * mark % n * math.tau / n)] for mark in marks]
    for part in (0, 1):
        for (a, u), (b, v) in itertools.combinations([(angle, told[part]) for angle, told in zip(angles, wanted)], 2):
            if abs(math.sin(a - b)) < 1e-9 and abs(u - math.cos(a - b) * v) > 1e-9:
                return False
        for (a, u), (b, v), (c,
                             w) in itertools.combinations([(angle, told[part]) for angle, told in zip(angles, wanted)],
                                                          3):
            if abs(u * math.sin(c - b) + v * math.sin(a - c) + w * math.sin(b - a)) > 1e-9:
                return False
    return True


class IsFrame(unittest.TestCase):
    def test_frames(self):
        for frame in SOME:
            self.assertIs(is_frame(frame), True)
            self.assertIs(is_frame(value=frame), True)

    def test_all_others(self):
        for at, value in enumerate(NOT_FRAMES):
            self.assertIs(is_frame(value), False, at)
        for value in NOT_FRACTIONS:
            self.assertIs(is_frame((4, (0, 1), value)), False)

    def test_sizes(self):
        for n in range(-1, 64):
            self.assertIs(is_frame((n, (0, 1), ONE)), 2 <= n <= 60)
            self.assertIs(is_frame((60, tuple(range(max(n, 0))), ONE)), 2 <= n <= 8)
            self.assertIs(is_frame((n, (0, 30), ONE)), 31 <= n <= 60)

    def test_regular(self):
        for n in range(2, 9):
            self.assertEqual(regular(n, HALF), (n, tuple(range(n)), HALF))
            self.assertEqual(regular(distance=TWO, number=n), (n, tuple(range(n)), TWO))
            self.assertEqual(frame_number(regular(n, ONE)), 2 if n == 4 else n)


class Knots(unittest.TestCase):
    def test_by_hand(self):
        rows = ((OPEN, ()), (FACING, ((0, 1),)), (SQUARE, ((0, 2), (1, 3))), (TRIANGLE, ((0, 1, 2),)),
                (HALVED, ((1, 31),)), (RHOMB, ((2, 17), (7, 22))),
                ((6, (0, 2, 4, 5), ONE), ((0, 2, 4), (0, 4, 5), (2, 5))),
                ((8, (0, 1, 4, 6), ONE), ((0, 1, 6), (0, 4), (1, 4, 6))), ((5, (0, 1, 3), ONE), ((0, 1, 3),)),
                ((4, (1, 2), ONE), ()))
        for frame, wanted in rows:
            self.assertEqual(knots(frame), wanted)
            self.assertEqual(knots(frame=frame), wanted)

    def test_of_all_twos_and_threes(self):
        for frame in SOME:
            self.assertEqual(knots(frame), told_knots(frame))
            for knot in knots(frame):
                number = knot_number(frame, knot)
                self.assertEqual(knot_number(knot=knot, frame=frame), number)
                self.assertEqual(number, told_number(frame[0], knot))
                self.assertEqual(number == 2, len(knot) == 2)

    def test_numbers_by_hand(self):
        rows = ((CORNER, (0, 4, 7), 12), (EVEN, (0, 20, 40), 3), (HALVED, (1, 31), 2),
                ((24, (0, 6, 12, 15), ONE), (0, 6, 15), 8), ((60, (3, 9, 21, 33, 39, 45, 51, 57), ONE), (3, 9, 21), 10),
                ((60, (3, 9, 21, 33, 39, 45, 51, 57), ONE), (9, 39), 2))
        for frame, knot, wanted in rows:
            self.assertEqual(knot_number(frame, knot), wanted)


class Numbers(unittest.TestCase):
    def test_by_hand(self):
        rows = ((OPEN, 1), ((4, (1, 2), ONE), 1), (FACING, 2), ((60, (0, 30), TINY), 2), (SQUARE, 2), (RHOMB, 2),
                (HALVED, 2), (EVEN, 3), (TRIANGLE, 3), (CORNER, 12), ((8, (0, 1, 4, 6), ONE), 8),
                ((12, (0, 3, 6, 9), ONE), 2), ((12, (0, 1, 6, 9), ONE), 12), ((8, (0, 2, 4, 6), ONE), 2),
                ((24, (0, 6, 12, 15), ONE), 8), ((6, (0, 2, 4, 5), ONE), 6), ((59, (0, 1, 2), ONE), 59))
        for frame, wanted in rows:
            self.assertEqual(frame_number(frame), wanted)
            self.assertEqual(frame_number(frame=frame), wanted)

    def test_never_four(self):
        self.assertNotIn(4, [frame_number(frame) for frame in SOME])
        for marks in itertools.chain(*[itertools.combinations(range(8), many) for many in range(2, 9)]):
            self.assertIn(frame_number((8, marks, ONE)), (1, 2, 8))

    def test_lets_what_all_knots_let(self):
        for frame in SOME:
            for j in tuple(range(1, 64)) + HARMONICS:
                self.assertIs(lets(frame, j), is_let(frame, j))
            self.assertEqual(letting(frame, 125), tuple(j for j in range(1, 126) if is_let(frame, j)))

    def test_lets_what_touches_all_feet(self):
        for frame in FRAMES + some_frames(2, 40):
            for j in range(1, 2 * frame[0] + 2):
                self.assertIs(lets(frame, j), is_touched(frame, j), (frame, j))

    def test_lets_by_hand(self):
        rows = ((OPEN, FINEST, True), (FACING, FINEST, False), (FACING, FINEST - 1, True), (EVEN, 3 * 10 ** 11, False),
                (EVEN, FINEST, True), (CORNER, 1, True), (CORNER, 12, False), (CORNER, 11, True), (CORNER, 25, True),
                (TRIANGLE, FINEST - 1, False))
        for frame, j, wanted in rows:
            self.assertIs(lets(frame, j), wanted)
            self.assertIs(lets(harmonic=j, frame=frame), wanted)

    def test_letting_by_hand(self):
        rows = ((OPEN, 4, (1, 2, 3, 4)), (CORNER, 1, (1,)), (CORNER, 10, (1,)), (CORNER, 11, (1, 11)),
                (CORNER, 25, (1, 11, 13, 23, 25)))
        for frame, most, wanted in rows:
            self.assertEqual(letting(frame, most), wanted)
            self.assertEqual(letting(most=most, frame=frame), wanted)
        self.assertEqual([len(letting(frame, 600)) for frame in (OPEN, FACING, TRIANGLE, CORNER)], [600, 300, 400, 100])


class Bars(unittest.TestCase):
    def assert_bar(self, wave, frame, wanted):
        self.assertEqual(bar(wave, frame), wanted)
        self.assertEqual(bar(frame=frame, wave=wave), wanted)
        self.assertIs(turns_in(wave, frame), wanted is None)
        self.assertIs(turns_in(frame=frame, wave=wave), wanted is None)

    def test_by_hand(self):
        rows = (((OVAL, OPEN), None), ((opposite(OVAL), OPEN), None), ((NOUGHT, OPEN), None),
                ((NOUGHT, FACING), ("distance",)), ((OVAL, FACING), ("harmonic", 2, (0, 1))),
                ((raised(OVAL, TINY), TRIANGLE), ("distance",)), ((raised(OVAL, less(TINY)), TRIANGLE), ("distance",)),
                ((opposite(ROUND_CAM), SQUARE), ("distance",)),
                ((EGG, (8, (0, 1, 4, 6), ONE)), ("harmonic", 3, (0, 1, 6))),
                ((OVAL, (8, (0, 1, 4, 6), ONE)), ("harmonic", 2, (0, 1, 6))),
                ((OVAL, (6, (0, 2, 3, 4), ONE)), ("harmonic", 2, (0, 3))),
                ((EGG, (6, (0, 2, 4, 5), ONE)), ("harmonic", 3, (0, 2, 4))),
                ((OVAL, (6, (0, 2, 4, 5), ONE)), ("harmonic", 2, (0, 4, 5))),
                ((made(1, (5, 7)), (60, tuple(range(8)), ONE)), None),
                ((made(1, *[(0, 0)] * 6, (1, 0)), (8, (0, 1, 2, 3, 5, 7), ONE)), None))
        for (wave, frame), wanted in rows:
            self.assert_bar(wave, frame, wanted)

    def test_the_least_harmonic_and_the_least_knot(self):
        source = Random(5)
        for frame in SOME:
            for _ in range(4):
                had = [j for j in range(1, 9) if source.random() < 0.4]
                wave = (frame[2], made(0, *[(int(j in had), 0) for j in range(1, 9)])[1])
                bars = [("harmonic", j, knot) for j in had for knot in told_knots(frame)
                        if not knot_lets(frame[0], knot, j)]
                self.assert_bar(wave, frame, min(bars, default=None))
                wanted = ("distance",) if told_knots(frame) else None
                self.assert_bar(raised(wave, TINY), frame, wanted)

    def test_one_that_turns_touches_all_feet_at_all_turns(self):
        wave = (ONE, made(0, *[(0, 0)] * 4, (3, 1), (0, 0), (1, -2))[1])
        for frame in FRAMES:
            if frame[2] == ONE:
                self.assertIs(turns_in(wave, frame), is_touched(frame, 5) and is_touched(frame, 7))

    def test_two_pairs_of_opposite_feet(self):
        wave = made(1, (1, 2), (0, 0), (3, -1), (0, 0), ("1/2", 0), (0, 0), (0, 9))
        for n in range(4, 61, 2):
            for mark in range(1, n // 2):
                self.assert_bar(wave, (n, (0, mark, n // 2, n // 2 + mark), ONE), None)
                self.assert_bar(OVAL, (n, (0, mark, n // 2, n // 2 + mark), ONE), ("harmonic", 2, (0, n // 2)))


class RegularNumbers(unittest.TestCase):
    def test_by_hand(self):
        rows = ((ROUND_CAM, None), (POINT, None), (NOUGHT, None), (made(-4, (1, 0)), None), (EGG, (2, 4)), (OVAL, (3,)),
                (opposite(EGG), (2, 4)), (made(1, (1, 1), (0, 0), (0, 0), (0, 0), (0, 3)), (2, 3, 4, 6)),
                (made(1, (0, 0), (1, 0), (1, 0)), ()), (MANY_CAM, ()), (made(0, *[(0, 0)] * 7, (0, 1)), (3, 7, 9)),
                (made(0, *[(0, 0)] * 4, (1, 0), (0, 0), (0, 1)), (2, 3, 4, 6)),
                (made(0, *[(0, 0)] * 3, (1, 0), (1, 0)), (3,)),
                (made(0, (0, 0), (1, 0), (0, 0), (1, 0), (0, 0), (0, 0), (1, 0)), (3,)))
        for wave, wanted in rows:
            self.assertEqual(regular_numbers(wave), wanted)
            self.assertEqual(regular_numbers(wave=wave), wanted)

    def test_they_turn_in_those_regular_frames_alone(self):
        for had in itertools.product((0, 1), repeat=7):
            wave = made(1, (1, 0), *[(bit, 0) for bit in had])
            numbers = regular_numbers(wave)
            self.assertEqual(numbers is None, not any(had))
            for n in range(3, 9):
                if n != 4 and numbers is not None:
                    self.assertIs(turns_in(wave, regular(n, ONE)), n in numbers)
                if n != 4 and numbers is None:
                    self.assertIs(turns_in(wave, regular(n, ONE)), True)


class Parting(unittest.TestCase):
    def test_against_all_harmonics(self):
        for frame, other in itertools.chain(itertools.product(FRAMES, repeat=2), zip(SOME, SOME[::-1])):
            parted = [j for j in range(1, 61) if is_let(frame, j) != is_let(other, j)]
            found = parting_harmonic(frame, other)
            self.assertEqual(found, min(parted, default=None))
            self.assertEqual(parting_harmonic(other=other, frame=frame), found)
            self.assertEqual(found is None, frame_number(frame) == frame_number(other))
            if found is None:
                self.assertEqual(letting(frame, 600), letting(other, 600))

    def test_by_hand(self):
        rows = ((SQUARE, FACING, None), (SQUARE, TRIANGLE, 2), (OPEN, FACING, 2), (OPEN, TRIANGLE, 3),
                (CORNER, (60, tuple(range(8)), ONE), 11), ((59, (0, 1, 2), ONE), (60, (0, 1, 2), ONE), 58),
                ((59, (0, 1, 2), ONE), (58, (0, 1, 2), ONE), 57), (OPEN, (60, (0, 59), ONE), None))
        for frame, other, wanted in rows:
            self.assertEqual(parting_harmonic(frame, other), wanted)


class Needless(unittest.TestCase):
    def test_by_hand(self):
        rows = ((OPEN, ()), (FACING, ()), ((60, (0, 30), TINY), ()), (SQUARE, (0, 1, 2, 3)), (TRIANGLE, ()),
                (HALVED, (7,)), (RHOMB, (2, 7, 17, 22)), ((6, (0, 2, 4, 5), ONE), (2,)),
                ((5, (0, 1, 2, 3, 4), ONE), (0, 1, 2, 3, 4)), ((8, (0, 2, 4, 5), ONE), (0, 4)),
                ((12, (0, 4, 7, 8), ONE), (0, 4, 8)), ((9, (0, 3, 4, 6), ONE), (0, 3, 6)))
        for frame, wanted in rows:
            self.assertEqual(needless_feet(frame), wanted)
            self.assertEqual(needless_feet(frame=frame), wanted)

    def test_against_all_harmonics(self):
        for frame in SOME:
            n, marks, distance = frame
            wanted = []
            for mark in marks:
                rest = (n, tuple(kept for kept in marks if kept != mark), distance)
                if len(marks) > 2 and all(is_let(frame, j) == is_let(rest, j) for j in range(1, n + 1)):
                    wanted.append(mark)
            self.assertEqual(needless_feet(frame), tuple(wanted))


if __name__ == "__main__":
    unittest.main()
