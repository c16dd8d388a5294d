"""Calls at the ends of what is allowed come back in good time."""

import time
import unittest

from framecams import alikes, cams, certificates, checker, feet, frames, lots, nevers, pairs, signs, sizes, speeds
from framecams import sums
from framecams.consoles import Console
from framecams.turns import turn_of
from framecams.waves import mirrored, plus, times, turned
from framecams.workshops import Workshop
from tests.shapes import EIGHT, FAST, FINEST, FINE_EDGE, LONG, MANY_CAM, MIXED, SHORTER, SQUARED, TINY
from tests.shapes import any_waves, less, made, multiplied, opposite, raised
from tests.test_frames import CORNER
from tests.values import BIG, BIG_HALF, FULL, HALF, ONE, SLANT, TURNS, TWO

SECONDS = 2.0
MILLION = 10 ** 6
FINER = (1, 10 ** 60)
ROUGH = [multiplied(wave, wave) for wave in any_waves(11, 2)] + any_waves(12, 4, 8)
BESIDE = [raised(wave, step) for wave in (SQUARED, MIXED, ROUGH[0]) for step in (TINY, less(TINY), FINER, less(FINER))]
WAVES = [EIGHT, FAST, FULL, LONG, MIXED, SQUARED, opposite(SQUARED), SHORTER] + BESIDE + ROUGH
FIGURES = made(3, *[(f"{BIG + k}/{BIG - k}", f"{k}/{BIG + k}") for k in range(1, 9)])
CAMS = [MANY_CAM, raised(EIGHT, (10 ** 3, 1)), raised(LONG, (10 ** 9, 1)), raised(FINE_EDGE, TINY),
        raised(FIGURES, (10 ** 4, 1))]
FRAMES = [(60, tuple(range(8)), HALF), (60, (0, 1, 2, 3, 30, 31, 32, 33), ONE), (59, (1, 2, 3, 5, 8, 13, 21, 34), TWO)]


class InGoodTime(unittest.TestCase):
    def assert_soon(self, function, *told):
        begin = time.perf_counter()
        found = function(*told)
        self.assertLess(time.perf_counter() - begin, SECONDS, function.__name__)
        return found

    def test_signs(self):
        for wave in WAVES + [FIGURES]:
            for function in (signs.never_below, signs.always_above, signs.row_of, cams.is_cam, cams.is_smooth,
                             cams.undercut_turn):
                self.assert_soon(function, wave)
            for sign in (-1, 0, 1):
                self.assert_soon(signs.turn_where, wave, sign)
            for function in (signs.least_near, signs.greatest_near, cams.ground_near):
                self.assert_soon(function, wave, FINEST)
            for index in range(self.assert_soon(signs.zeros_of, wave)):
                self.assert_soon(signs.zero_near, wave, index, FINEST)

    def test_cams_and_feet(self):
        for cam in CAMS:
            self.assert_soon(cams.point_at, cam, SLANT)
            for function in (cams.axle_word, cams.breadth_of, feet.is_even_broad):
                self.assert_soon(function, cam)
            for function in (feet.is_wide_enough, feet.missed_turn):
                self.assert_soon(function, cam, (-1, 10 ** 6), (FINEST + 1, FINEST))
            for gap in (ONE, (40, 1), (FINEST + 1, FINEST)):
                self.assert_soon(feet.gap_word, cam, gap)
                self.assert_soon(feet.gap_turn, cam, gap)
            for function in (feet.touch_near, feet.breadth_near):
                self.assert_soon(function, cam, FINEST)

    def test_frames(self):
        for frame in FRAMES:
            for function in (frames.knots, frames.frame_number, frames.needless_feet):
                self.assert_soon(function, frame)
            for harmonic in (FINEST - 1, FINEST):
                self.assert_soon(frames.lets, frame, harmonic)
            self.assert_soon(frames.letting, frame, 600)
            self.assert_soon(frames.parting_harmonic, frame, CORNER)
            for wave in (EIGHT, raised(MANY_CAM, (-39, 2)), FAST):
                self.assert_soon(frames.bar, wave, frame)
                self.assert_soon(frames.turns_in, wave, frame)
                self.assert_soon(frames.regular_numbers, wave)

    def test_lots(self):
        great = [(n, (0, 1, 2), ONE) for n in (60, 59, 58, 57, 55, 53, 49, 48, 47, 43)]
        for lot in (tuple(great[:6]), tuple(great[1:7]), tuple(great[4:]), tuple(great[1:3] + great[6:]),
                    tuple(FRAMES) * 2):
            self.assert_soon(lots.least_shared, lot)
            self.assert_soon(lots.shares, lot, FINEST)
        for harmonics in ((MILLION,), tuple(range(MILLION - 5, MILLION + 1)), (720719, 720721),
                          (499999, 500001, 999999)):
            self.assert_soon(lots.good_numbers, harmonics)
            for number in (2, 59, 60):
                self.assert_soon(lots.most_feet, number, harmonics)
                self.assert_soon(lots.widest_frame, number, harmonics, HALF)

    def test_pairs(self):
        for cam, arms in [(cam, (HALF, TWO)) for cam in CAMS] + [(cam, ((BIG, 3), (1, BIG))) for cam in CAMS[:4]]:
            with self.subTest(cam=cam[0], arms=arms):
                for function in (pairs.play_wave, pairs.goes_without_play, pairs.playing_harmonics, pairs.pair_width):
                    self.assert_soon(function, cam, CAMS[0], arms, SLANT)
                self.assert_soon(pairs.mate, cam, arms, SLANT, TWO)
                self.assert_soon(pairs.is_mate_cam, cam, arms, SLANT, (BIG, 1))
                self.assert_soon(pairs.width_near, cam, arms, FINEST)

    def test_speeds(self):
        for cam in CAMS[:4] + [made(99, *[(0, 0)] * 7, (1, "1/3"))]:
            for spring in ((ONE, ONE, HALF), ((1, 3), (10 ** 6, 7), (FINEST, 11))):
                for square in ((0, 1), (1, 70), (FINEST + 1, FINEST)):
                    self.assert_soon(speeds.bearing_wave, cam, spring, square)
                    self.assert_soon(speeds.leaving_turn, cam, spring, square)
                    self.assert_soon(speeds.turning_at, cam, spring, square, SLANT)
                    self.assert_soon(speeds.turning_near, cam, spring, square, FINEST)
                    if self.assert_soon(speeds.is_kept, cam, spring, square):
                        self.assert_soon(speeds.pressing_near, cam, spring, square, FINEST)
                        self.assert_soon(speeds.presses_at_most, cam, spring, square, (FINEST + 1, FINEST))
                self.assert_soon(speeds.square_near, cam, spring, FINEST)

    def test_nevers(self):
        for at, cam in enumerate(CAMS):
            for other in CAMS[at:] + [raised(cam, TINY), raised(cam, less(FINER))]:
                for turn in (SLANT, turn_of((1, 10 ** 30))):
                    for function in (nevers.within_word, nevers.turn_above, nevers.carrying_row, nevers.handed_over,
                                     nevers.carry_word):
                        self.assert_soon(function, cam, other, turn)
                    self.assert_soon(nevers.spare_near, cam, other, turn, FINEST)
                    self.assert_soon(nevers.lift_of_two, cam, other, turn, SLANT)

    def test_alikes(self):
        big = turn_of(BIG_HALF)
        gapped = [made(1, *[(0, 0)] * (k - 1), ("3/7", f"{BIG}/{BIG + 2}")) for k in range(1, 9)]
        for wave in WAVES[::2] + [LONG, FIGURES] + gapped:
            for other in (turned(wave, big), mirrored(wave), WAVES[0]):
                for function in (alikes.are_alike, alikes.are_alike_moved, alikes.are_mirror_alike,
                                 alikes.carrying_turns, alikes.parting):
                    self.assert_soon(function, wave, other)
            for function in (alikes.fold, alikes.has_axis):
                self.assert_soon(function, wave)
        for wave in gapped:
            self.assertIn(big, self.assert_soon(alikes.carrying_turns, wave, turned(wave, big)))

    def test_sizes(self):
        for cam in CAMS:
            for function in (sizes.way_round, sizes.area, sizes.moments, sizes.deficit, sizes.middle,
                             sizes.is_balanced, sizes.balanced):
                self.assert_soon(function, cam)
            for other in CAMS:
                self.assert_soon(sizes.mixed_area, cam, other)
                self.assert_soon(sizes.mixed_gap, cam, other)

    def test_sums(self):
        figured = [turned(FIGURES, turn) for turn in TURNS[4:9]] + [FIGURES]
        boxes = [WAVES[:6], WAVES[3:9], WAVES[-6:], [LONG, FIGURES, EIGHT, FULL, MIXED, SQUARED], figured,
                 [FIGURES, times(FIGURES, (-1, 1)), LONG, times(LONG, (-1, BIG)), EIGHT, plus(EIGHT, LONG)]]
        for box in [tuple(box) for box in boxes]:
            weights = tuple((k, BIG) for k in range(1, 7))
            inner = self.assert_soon(sums.added, box, weights)
            for wave in (inner, plus(inner, times(box[0], (-2, 1))), LONG, FIGURES, FAST):
                found = self.assert_soon(sums.weights_for, box, wave)
                barring = self.assert_soon(sums.barring_wave, box, wave)
                self.assert_soon(sums.is_barring, box, wave, barring)
                if found is not None:
                    for number in range(6):
                        self.assert_soon(sums.weight_range, box, wave, number)
            self.assert_soon(sums.needless_waves, box)

    def test_certificates(self):
        spring, arms = ((1, 3), (10 ** 6, 7), (FINEST, 11)), ((BIG, 3), (1, BIG))
        rows = [(certificates.certify_shared, (tuple((n, (0, 1, 2), ONE) for n in (59, 58, 57, 55, 53, 49)),))]
        rows += [(certificates.certify_cam, (wave,)) for wave in WAVES + CAMS]
        rows += [(certificates.certify_alike, (wave, turned(wave, SLANT))) for wave in WAVES + CAMS]
        rows += [(certificates.certify_frame, (wave, frame)) for wave in WAVES for frame in FRAMES]
        rows += [(certificates.certify_frames, (frame, CORNER)) for frame in FRAMES]
        rows += [(certificates.certify_box, (tuple(WAVES[at:at + 6]), WAVES[at + 3 * (at % 4)])) for at in range(0, 12)]
        for at, cam in enumerate(CAMS):
            rows += [(certificates.certify_foot, (cam, (-1, 10 ** 6), (FINEST + 1, FINEST))),
                     (certificates.certify_play, (cam, CAMS[at - 1], arms, SLANT)), (certificates.certify_area, (cam,)),
                     (certificates.certify_kept, (cam, spring, (FINEST + 1, FINEST))),
                     (certificates.certify_within, (cam, CAMS[at - 1], SLANT)),
                     (certificates.certify_within, (cam, raised(cam, less(FINER)), TURNS[0]))]
        for function, told in rows:
            claim, paper = self.assert_soon(function, *told)
            self.assertIs(self.assert_soon(checker.accepts, claim, paper), True)

    def test_workshops(self):
        shop = Workshop()
        console = Console(shop)
        for name, cam in zip("abcde", CAMS):
            self.assert_soon(shop.put, name, cam)
            for wish in (("alike", name, name), ("under", name, name), ("breadth", name, (-BIG, 1), (BIG, 1)),
                         ("foot", name, (-BIG, 1), (BIG, 1)), ("turns in", name, (60, (0, 59), HALF))):
                self.assert_soon(shop.wish, wish)
        for _ in range(3):
            for name, cam in zip("abcde", CAMS[:4]):
                self.assert_soon(shop.put, name, cam)
                for line in (f"cam {name}", f"size {name}", f"lift {name}: 1/1000", f"touch {name}: west"):
                    self.assert_soon(console.say, line)
        for _ in range(400):
            shop.put("z", CAMS[0])
        while len(shop) > 0:
            self.assert_soon(shop.undo)


if __name__ == "__main__":
    unittest.main()
