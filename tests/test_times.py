"""Calls at the ends of what is allowed come back in good time."""

import time
import unittest

from framecams import cams, feet, frames, signs
from tests.shapes import EIGHT, FAST, FINEST, FINE_EDGE, LONG, MANY_CAM, MIXED, SHORTER, SQUARED, TINY
from tests.shapes import any_waves, less, made, multiplied, opposite, raised
from tests.test_frames import CORNER
from tests.values import BIG, FULL, HALF, ONE, SLANT, TWO

SECONDS = 1.0
FINER = (1, 10 ** 60)
ROUGH = [multiplied(wave, wave) for wave in any_waves(11, 2)] + any_waves(12, 4, 8)
BESIDE = [raised(wave, step) for wave in (SQUARED, MIXED, ROUGH[0]) for step in (TINY, less(TINY), FINER, less(FINER))]
WAVES = [EIGHT, FAST, FULL, LONG, MIXED, SQUARED, opposite(SQUARED), SHORTER] + BESIDE + ROUGH
FIGURES = made(3, *[(f"{BIG + k}/{BIG - k}", f"{k}/{BIG + k}") for k in range(1, 9)])
CAMS = [MANY_CAM, raised(EIGHT, (10 ** 3, 1)), raised(LONG, (10 ** 9, 1)), raised(FINE_EDGE, TINY), raised(FIGURES, (10 ** 4, 1))]
FRAMES = [(60, tuple(range(8)), HALF), (60, (0, 1, 2, 3, 30, 31, 32, 33), ONE), (59, (1, 2, 3, 5, 8, 13, 21, 34), TWO)]


class InGoodTime(unittest.TestCase):
    def assert_soon(self, function, *told):
        begin = time.perf_counter()
        found = function(*told)
        self.assertLess(time.perf_counter() - begin, SECONDS, function.__name__)
        return found

    def test_signs(self):
        for wave in WAVES + [FIGURES]:
            for function in (signs.never_below, signs.always_above, signs.row_of, cams.is_cam, cams.is_smooth, cams.undercut_turn):
                self.assert_soon(function, wave)
            for sign in (-1, 0, 1):
                self.assert_soon(signs.turn_where, wave, sign)
            for function in (signs.least_near, signs.greatest_near, cams.ground_near):
                self.assert_soon(function, wave, FINEST)
            for index in range(self.assert_soon(signs.zeros_of, wave)):
                self.assert_soon(signs.zero_near, wave, index, FINEST)

    def test_cams_and_feet(self):
        for cam in CAMS:
            self.assert_soon(cams.point_at, cam, SLANT)
            for function in (cams.axle_word, cams.breadth_of, feet.is_even_broad):
                self.assert_soon(function, cam)
            for function in (feet.is_wide_enough, feet.missed_turn):
                self.assert_soon(function, cam, (-1, 10 ** 6), (FINEST + 1, FINEST))
            for gap in (ONE, (40, 1), (FINEST + 1, FINEST)):
                self.assert_soon(feet.gap_word, cam, gap)
                self.assert_soon(feet.gap_turn, cam, gap)
            for function in (feet.touch_near, feet.breadth_near):
                self.assert_soon(function, cam, FINEST)

    def test_frames(self):
        for frame in FRAMES:
            for function in (frames.knots, frames.frame_number, frames.needless_feet):
                self.assert_soon(function, frame)
            for harmonic in (FINEST - 1, FINEST):
                self.assert_soon(frames.lets, frame, harmonic)
            self.assert_soon(frames.letting, frame, 600)
            self.assert_soon(frames.parting_harmonic, frame, CORNER)
            for wave in (EIGHT, raised(MANY_CAM, (-39, 2)), FAST):
                self.assert_soon(frames.bar, wave, frame)
                self.assert_soon(frames.turns_in, wave, frame)
                self.assert_soon(frames.regular_numbers, wave)


if __name__ == "__main__":
    unittest.main()
