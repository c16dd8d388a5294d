"""Lots: shared harmonics, good numbers, most feet, widest frames; against counts, divisors and trials of all marks."""

import itertools
import unittest
from random import Random

from framecams.frames import frame_number, is_frame, knots, lets, regular
from framecams.lots import good_numbers, least_shared, most_feet, shares, widest_frame
from tests.shapes import FINEST
from tests.test_frames import CORNER, EVEN, FACING, FRAMES, OPEN, RHOMB, SQUARE, TRIANGLE, is_let, knot_lets
from tests.test_frames import some_frames
from tests.values import HALF, ONE, TWO

MILLION = 10 ** 6
WIDE = [(n, (0, 1, 2), ONE) for n in (60, 59, 58, 57, 55, 53, 49, 48, 47)]
LOTS = ((SQUARE,), (TRIANGLE,), (OPEN,), (CORNER,), (SQUARE, TRIANGLE), (TRIANGLE, CORNER), (OPEN, OPEN),
        (FACING, OPEN), (EVEN, EVEN, EVEN), (RHOMB, EVEN), tuple(regular(n, ONE) for n in (2, 3, 4, 5, 6, 7)),
        (regular(8, ONE), regular(6, TWO)), (regular(5, ONE), regular(7, ONE)),
        (SQUARE, TRIANGLE, OPEN, CORNER, regular(5, HALF), FACING), (WIDE[0], WIDE[7]), (WIDE[1], WIDE[2]),
        (WIDE[0], CORNER, SQUARE),)
SETS = ((2,), (3,), (5,), (2, 3), (3, 5), (5, 7), (2, 4), (7, 9, 11), (3, 5, 7, 9, 11, 13), (4, 8), (11, 13), (10, 12),
        (5, 7, 11, 13, 17, 19), (8, 10))


def is_shared(lot, j):
    return all(is_let(frame, j) for frame in lot)


def is_good(number, harmonics):
    return all((j - 1) % number == 0 or (j + 1) % number == 0 for j in harmonics)


def marks_let(n, marks, harmonics):
    """Whether each knot of the marks lets all harmonics."""
    for size in (2, 3):
        for knot in itertools.combinations(marks, size):
            opposite = [2 * (a - b) % n == 0 for a, b in itertools.combinations(knot, 2)]
            if any(opposite) == (size == 2) and not all(knot_lets(n, knot, j) for j in harmonics):
                return False
    return True


def tried_most(n, harmonics):
    """The most feet, by trying each set of marks; turning all marks changes nothing, so 0 is one of them."""
    for many in range(n, 0, -1):
        for marks in itertools.combinations(range(1, n), many - 1):
            if marks_let(n, (0,) + marks, harmonics):
                return many
    return 0


class Shares(unittest.TestCase):
    def test_by_hand(self):
        rows = (((SQUARE, TRIANGLE), 5, True), ((SQUARE, TRIANGLE), 3, False), ((SQUARE, TRIANGLE), 2, False),
                ((OPEN,), FINEST, True), ((OPEN, FACING), FINEST, False), ((OPEN, FACING), FINEST - 1, True),
                ((EVEN,), FINEST, True), ((EVEN, OPEN, TRIANGLE), FINEST, True), ((CORNER,), 25, True),
                ((CORNER, SQUARE), 24, False))
        for lot, j, wanted in rows:
            self.assertIs(shares(lot, j), wanted)
            self.assertIs(shares(lot[::-1], j), wanted)
            self.assertIs(shares(harmonic=j, frames=lot), wanted)

    def test_what_each_lets(self):
        source = Random(8)
        for lot in LOTS + tuple(tuple(source.sample(FRAMES, source.randint(1, 6))) for _ in range(40)):
            for j in tuple(range(1, 62)) + (FINEST - 1, FINEST):
                self.assertIs(shares(lot, j), is_shared(lot, j))


class LeastShared(unittest.TestCase):
    def test_by_hand(self):
        rows = (((OPEN,), 2), ((OPEN,) * 6, 2), ((FACING,), 3), ((TRIANGLE,), 2), ((SQUARE, TRIANGLE), 5),
                ((SQUARE,), 3), ((TRIANGLE, CORNER), 11), ((CORNER, OPEN), 11), ((regular(5, ONE), regular(7, ONE)), 6),
                (tuple(regular(n, ONE) for n in (3, 4, 5, 6, 7, 8)), 41))
        for lot, wanted in rows:
            self.assertEqual(least_shared(lot), wanted)
            self.assertEqual(least_shared(frames=lot), wanted)

    def test_against_a_count_upwards(self):
        source = Random(9)
        some = some_frames(10, 60)
        for lot in LOTS + tuple(tuple(source.sample(some, source.randint(1, 3))) for _ in range(60)):
            numbers = [frame_number(frame) for frame in lot]
            j = 2
            while not all((j - 1) % number == 0 or (j + 1) % number == 0 for number in numbers):
                j += 1
            self.assertEqual(least_shared(lot), j)
            self.assertEqual(least_shared(lot[::-1]), j)
            self.assertTrue(is_shared(lot, j))

    def test_six_frames_of_great_numbers(self):
        for lot in itertools.permutations(WIDE[:4], 4):
            self.assertEqual(least_shared(lot), least_shared(tuple(WIDE[:4])))
        for lot in (tuple(WIDE[1:7]), tuple(WIDE[:6]), tuple(WIDE[3:9]), tuple(WIDE[::-1][:6])):
            j = least_shared(lot)
            self.assertTrue(j > 1 and is_shared(lot, j))
            # Others with all of these remainders, or the opposite ones, are further on.
            numbers = [frame[0] for frame in lot]
            self.assertEqual(j, min(told for told in remainders(numbers) if told > 1))


def remainders(numbers):
    """The least two j from 0 on with each choice of 1 or -1 as the remainders by all numbers."""
    found = []
    for signs in itertools.product((1, -1), repeat=len(numbers)):
        j, step = 0, 1
        for number, sign in zip(numbers, signs):
            tried = [j + step * k for k in range(number) if (j + step * k - sign) % number == 0]
            if not tried:
                break
            j = tried[0]
            shared = step
            while shared % number:
                shared += step
            step = shared
        else:
            found += [j, j + step]
    return found


class GoodNumbers(unittest.TestCase):
    def test_by_hand(self):
        rows = (((3,), (1, 2, 4)), ((2,), (1, 3)), ((5, 7), (1, 2, 3, 4, 6)), ((2, 3), (1,)), ((4,), (1, 3, 5)),
                ((11, 13), (1, 2, 3, 4, 6, 12)), ((11, 12), (1,)), ((9, 11), (1, 2, 4, 5, 10)), ((3, 5), (1, 2, 4)),
                ((3, 5, 7, 9, 11, 13), (1, 2, 4)))
        for harmonics, wanted in rows:
            self.assertEqual(good_numbers(harmonics), wanted)
            self.assertEqual(good_numbers(harmonics=harmonics), wanted)

    def test_against_all_numbers(self):
        for harmonics in SETS + tuple((j,) for j in range(2, 100)) + tuple((j, j + 2, 3 * j) for j in range(2, 60)):
            wanted = tuple(number for number in range(1, max(harmonics) + 2) if is_good(number, harmonics))
            self.assertEqual(good_numbers(harmonics), wanted)

    def test_great_harmonics(self):
        for harmonics in ((MILLION,), (MILLION - 1, MILLION), (720719, 720721),
                          (359999, 360001, 719999, 720001, 999999), (499999, 999999), (999983,),
                          (MILLION - 5, MILLION - 4, MILLION - 3, MILLION - 2, MILLION - 1, MILLION)):
            wanted = tuple(number for number in range(1, min(harmonics) + 2) if is_good(number, harmonics))
            self.assertEqual(good_numbers(harmonics), wanted)


class MostFeet(unittest.TestCase):
    def test_by_hand(self):
        rows = ((12, (5, 7), 6), (5, (5, 7), 2), (30, (3,), 4), (2, (2,), 1), (2, (3,), 2), (2, (2, 3), 1),
                (3, (2,), 3), (3, (3,), 2), (4, (3,), 4), (4, (2,), 2), (60, (59, 61), 60), (60, (29, 31), 30),
                (59, (58,), 59), (60, (2,), 3), (58, (57, 59), 58), (6, (3,), 4), (8, (3,), 4), (24, (11, 13), 12),
                (3, (2, 3), 2))
        for number, harmonics, wanted in rows:
            self.assertEqual(most_feet(number, harmonics), wanted)
            self.assertEqual(most_feet(harmonics=harmonics, number=number), wanted)

    def test_against_a_trial_of_all_marks(self):
        for number in range(2, 11):
            for harmonics in SETS:
                self.assertEqual(most_feet(number, harmonics), tried_most(number, harmonics), (number, harmonics))
        for harmonics in ((3,), (5, 7), (11, 13), (4,), (2,)):
            self.assertEqual(most_feet(12, harmonics), tried_most(12, harmonics))

    def test_more_than_eight(self):
        for number in range(9, 61):
            self.assertEqual(most_feet(number, (number - 1, number + 1)), number)
            self.assertTrue(marks_let(number, range(number), (number - 1, number + 1)))


class WidestFrame(unittest.TestCase):
    def test_all_its_knots_let_them(self):
        for number in range(2, 61):
            for harmonics in SETS + ((number, number + 2), (2 * number + 1, 4 * number - 1)):
                frame = widest_frame(number, harmonics, HALF)
                most = most_feet(number, harmonics)
                self.assertEqual(frame is None, most == 1)
                if frame is not None:
                    n, marks, distance = frame
                    self.assertIs(is_frame(frame), True)
                    self.assertEqual((n, len(marks), distance), (number, min(8, most), HALF))
                    self.assertTrue(all(knot_lets(n, knot, j) for knot in knots(frame) for j in harmonics))
                    self.assertTrue(all(lets(frame, j) for j in harmonics))

    def test_none_but_one_foot(self):
        for harmonics in ((2,), (2, 3), (3, 4), (10, MILLION), (MILLION,)):
            self.assertIsNone(widest_frame(2, harmonics, ONE))
            self.assertEqual(most_feet(2, harmonics), 1)
        self.assertEqual(widest_frame(distance=TWO, harmonics=(3, MILLION - 1), number=2), (2, (0, 1), TWO))


if __name__ == "__main__":
    unittest.main()
