"""Certificates: each is accepted, tells of what was passed, and the claim that is so."""

import unittest

from framecams import certificates
from framecams.certificates import certify_alike, certify_area, certify_box, certify_cam, certify_foot, certify_frame
from framecams.certificates import certify_frames, certify_kept, certify_play, certify_shared, certify_within
from framecams.checker import accepts
from framecams.frames import bar, parting_harmonic
from framecams.lots import least_shared
from framecams.sizes import area
from framecams.turns import is_turn
from tests.shapes import CAMS, EIGHT, FAST, FINE_EDGE, FINEST, LONG, MANY_CAM, NOUGHT, NO_CAMS, POINT, SPECIAL, TINY
from tests.shapes import any_cams, any_waves, less, made, opposite, raised
from tests.test_checker import COIL, EVEN_ARMS, OPPOSITES, PAPERS, PARTS, SHARED, is_so
from tests.test_frames import CORNER, FRAMES, OPEN, SQUARE, TRIANGLE
from tests.test_nevers import carried, hard_pairs
from tests.test_sums import any_boxes
from tests.values import BIG, EAST, EGG, HALF, NIL, NORTH, ONE, OVAL, ROUND_CAM, SLANT, TURNS, TWO, WEST

CERTIFYING = {"cam": certify_cam, "wide": certify_foot, "turns in": certify_frame, "same frames": certify_frames,
              "no play": certify_play, "kept": certify_kept, "within": certify_within, "alike": certify_alike,
              "added": certify_box}
NAMES = {"cam": ("wave",), "wide": ("cam", "low", "high"), "turns in": ("wave", "frame"),
         "same frames": ("frame", "other"),
         "no play": ("cam", "other", "arms", "turn"), "kept": ("cam", "spring", "square"),
         "within": ("cam", "other", "turn"), "alike": ("wave", "other"), "added": ("box", "wave")}


class Certificates(unittest.TestCase):
    def assert_certified(self, word, parts, wanted=None):
        """An accepted certificate with just these parts; its word and its paper."""
        function = CERTIFYING[word]
        found = function(*parts)
        self.assertEqual(function(**dict(reversed(list(zip(NAMES[word], parts))))), found)
        self.assertEqual((type(found), len(found)), (tuple, 2))
        claim, paper = found
        self.assertIs(accepts(claim, paper), True)
        self.assertIn(claim[0], (word, OPPOSITES[word]))
        self.assertEqual(len(claim), 1 + len(parts))
        for told, part in zip(claim[1:], parts):
            self.assertIs(told, part)
        self.assertIs(accepts((word,) + parts, paper) and accepts((OPPOSITES[word],) + parts, paper), False)
        if wanted is not None:
            self.assertEqual(claim[0], word if wanted else OPPOSITES[word])
        if claim[0] == word and word != "added":
            self.assertEqual(paper, ())
        return claim[0], paper

    def test_those_of_the_checker(self):
        for word, rows in PARTS.items():
            for parts in rows:
                # Of bounds the low one is not above the high one, and cams are cams.
                self.assert_certified(word, parts, is_so(word, parts))

    def test_the_other_claim_has_no_paper(self):
        for word, rows in PARTS.items():
            for parts in rows[:6]:
                told, _ = self.assert_certified(word, parts)
                other = OPPOSITES[word] if told == word else word
                for paper in PAPERS:
                    self.assertIs(accepts((other,) + parts, paper), False)

    def test_cams(self):
        for wave in SPECIAL + CAMS + NO_CAMS + (EIGHT, LONG, FAST) + tuple(any_waves(81, 20, 8)):
            told, paper = self.assert_certified("cam", (wave,), is_so("cam", (wave,)))
            self.assertEqual(is_turn(paper), told == "no cam")

    def test_feet(self):
        for cam in CAMS + tuple(any_cams(82, 6, 8)):
            for bounds in ((NIL, NIL), ((-1, 1), ONE), ((-99, 1), (99, 1)), ((-99, 1), HALF), (less(HALF), (99, 1))):
                self.assert_certified("wide", (cam,) + bounds, is_so("wide", (cam,) + bounds))

    def test_frames(self):
        for wave in (OVAL, EGG, MANY_CAM, ROUND_CAM, FAST, EIGHT, raised(MANY_CAM, (-39, 2))):
            for frame in FRAMES:
                told, paper = self.assert_certified("turns in", (wave, frame))
                self.assertEqual(paper, bar(wave, frame) if told == "barred" else ())
        for frame in FRAMES:
            for other in FRAMES[::3]:
                told, paper = self.assert_certified("same frames", (frame, other))
                self.assertEqual(paper, parting_harmonic(frame, other) if told == "unlike frames" else ())

    def test_shared(self):
        for frames, harmonic in SHARED + [((CORNER, (60, (0, 1, 2), HALF), OPEN), None), (FRAMES[:6], None)]:
            told = harmonic or least_shared(frames)
            for found in (certify_shared(frames), certify_shared(frames=frames)):
                self.assertEqual(found, (("least shared", frames, told), ()))
                self.assertIs(found[0][1], frames)
                self.assertIs(accepts(*found), True)
                self.assertIs(accepts(("least shared", frames, told + 1), ()), False)

    def test_pairs(self):
        for at, cam in enumerate(CAMS):
            for other, turn in ((CAMS[-at], TURNS[at % 9]), (cam, WEST), (carried(cam, WEST), EAST)):
                for arms in (EVEN_ARMS, (HALF, (BIG, 3))):
                    told, paper = self.assert_certified("no play", (cam, other, arms, turn),
                                                        is_so("no play", (cam, other, arms, turn)))
                    if told == "play":
                        self.assertIs(accepts((told, cam, other, arms, turn), paper[::-1]), True)
        # The play is only just there.
        thin = (ONE, (OVAL[1][0], ((10 ** 300 - 4, 4 * 10 ** 300 - 3), NIL)))
        self.assert_certified("no play", (OVAL, thin, EVEN_ARMS, NORTH), False)

    def test_speeds(self):
        for cam in CAMS:
            for square in (NIL, TINY, (1, 9), (7, 4), (10 ** 6, 1)):
                for spring in (COIL, (ONE, ONE, (-1, 1)), (TINY, TWO, (99, 1))):
                    self.assert_certified("kept", (cam, spring, square), is_so("kept", (cam, spring, square)))

    def test_two_cams(self):
        for told, wave in hard_pairs():
            self.assert_certified("within", told, is_so("within", told))

    def test_alike(self):
        for at, wave in enumerate(SPECIAL + tuple(any_waves(83, 20, 8))):
            for other in (wave, carried(wave, TURNS[at % 9]), opposite(wave), SPECIAL[at % 7]):
                told, paper = self.assert_certified("alike", (wave, other), is_so("alike", (wave, other)))
                self.assertEqual(paper, ())

    def test_areas(self):
        for cam in CAMS + tuple(any_cams(84, 6, 8)):
            for found in (certify_area(cam), certify_area(cam=cam)):
                self.assertEqual(found, (("area", cam, area(cam)), ()))
                self.assertIs(found[0][1], cam)
                self.assertIs(accepts(*found), True)

    def test_boxes(self):
        for box, waves in any_boxes():
            for wave in waves:
                self.assert_certified("added", (box, wave), is_so("added", (box, wave)))

    def test_by_hand(self):
        rows = ((certify_cam, (OVAL,), (("cam", OVAL), ())), (certify_cam, (NOUGHT,), (("cam", NOUGHT), ())),
                (certify_frame, (EGG, TRIANGLE), (("barred", EGG, TRIANGLE), ("harmonic", 3, (0, 1, 2)))),
                (certify_frame, ((TWO, ()), SQUARE), (("barred", (TWO, ()), SQUARE), ("distance",))),
                (certify_frames, (SQUARE, TRIANGLE), (("unlike frames", SQUARE, TRIANGLE), 2)),
                (certify_frames, (OPEN, (3, (1, 2), ONE)), (("same frames", OPEN, (3, (1, 2), ONE)), ())),
                (certify_within, (OVAL, (TWO, ()), SLANT), (("within", OVAL, (TWO, ()), SLANT), ())),
                (certify_alike, (OVAL, EGG), (("unlike", OVAL, EGG), ())),
                (certify_foot, (OVAL, (-1, 2), HALF), (("wide", OVAL, (-1, 2), HALF), ())),
                (certify_kept, (OVAL, COIL, (7, 4)), (("kept", OVAL, COIL, (7, 4)), ())),
                (certify_play, (OVAL, OVAL, EVEN_ARMS, NORTH), (("no play", OVAL, OVAL, EVEN_ARMS, NORTH), ())),
                (certify_box, ((OVAL,), OVAL), (("added", (OVAL,), OVAL), (ONE,))),
                (certify_area, (POINT,), (("area", POINT, NIL), ())))
        for function, parts, wanted in rows:
            self.assertEqual(function(*parts), wanted)

    def test_only_just(self):
        for more in (TINY, (1, 10 ** 60)):
            self.assert_certified("cam", (raised(FINE_EDGE, more),), True)
            self.assert_certified("cam", (raised(FINE_EDGE, less(more)),), False)
            self.assert_certified("within", (OVAL, raised(made("5/4"), more), SLANT), True)
            self.assert_certified("within", (OVAL, raised(made("5/4"), less(more)), SLANT), False)
            self.assert_certified("kept", (OVAL, COIL, raised(made("7/4"), less(more))[0]), True)
            self.assert_certified("kept", (OVAL, COIL, raised(made("7/4"), more)[0]), False)
        self.assert_certified("cam", (made(FINEST, (BIG, -BIG)),), True)

    def test_all_are_here(self):
        found = [name for name in vars(certificates) if name.startswith("certify_")]
        self.assertEqual(len(found), len(CERTIFYING) + 2)


if __name__ == "__main__":
    unittest.main()
