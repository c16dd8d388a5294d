"""Pairs without play: play waves, widths, mates, and from which width on a mate is a cam."""

import unittest
from fractions import Fraction
from math import isqrt

from framecams.pairs import goes_without_play, is_mate_cam, mate, pair_width, play_wave, playing_harmonics, width_near
from framecams.turns import back, joined
from framecams.waves import turned
from tests.shapes import AXLE, CAMS, CRANK, EDGE, FINEST, FINE_EDGE, MANY_CAM, POINT, SKEW_OVAL, TINY
from tests.shapes import any_cams, bent, less, made, opposite, raised
from tests.sturm import Zeros
from tests.values import BIG, BLANK, EAST, EGG, HALF, MANY_TURNS, NIL, NORTH, ONE, OVAL, ROUND_CAM, SLANT, SOUTH
from tests.values import TURNS, TWO, WEST, number_of, pair_of, reckoned

ARMS = ((ONE, ONE), (HALF, (2, 3)), ((7, 3), TINY), ((BIG, 1), (1, BIG)))
SOME = CAMS + tuple(any_cams(21, 12))


def is_nowhere_below(wave):
    return -1 not in Zeros(wave).signs()


class Play(unittest.TestCase):
    def test_play_wave(self):
        for at, cam in enumerate(SOME):
            other, turn, arms = SOME[-at], TURNS[at % 9], ARMS[at % 4]
            a, b = [number_of(arm) for arm in arms]
            wave = play_wave(cam, other, arms, turn)
            self.assertEqual(play_wave(turn=turn, arms=arms, other=other, cam=cam), wave)
            for spot in MANY_TURNS:
                self.assertEqual(reckoned(wave, spot), a * reckoned(cam, spot) +
                                 b * reckoned(other, joined(spot, turn)))

    def assert_pair(self, told, playing, width):
        cam, other, arms, turn = told
        self.assertEqual(playing_harmonics(*told), playing)
        self.assertEqual(playing_harmonics(turn=turn, arms=arms, other=other, cam=cam), playing)
        self.assertIs(goes_without_play(*told), width is not None)
        self.assertIs(goes_without_play(turn=turn, arms=arms, other=other, cam=cam), width is not None)
        self.assertEqual(pair_width(*told), width)
        self.assertEqual(pair_width(turn=turn, arms=arms, other=other, cam=cam), width)

    def test_by_hand(self):
        even, slim = (ONE, ONE), made(1, (0, 0), ("1/8", 0))
        rows = (((OVAL, OVAL, even, EAST), (2,), None), ((OVAL, OVAL, even, NORTH), (), TWO),
                ((OVAL, OVAL, even, SOUTH), (), TWO), ((OVAL, OVAL, even, WEST), (2,), None),
                ((OVAL, OVAL, even, SLANT), (2,), None), ((OVAL, OVAL, (ONE, TWO), NORTH), (2,), None),
                ((slim, OVAL, (TWO, ONE), NORTH), (), (3, 1)), ((EGG, EGG, even, WEST), (), TWO),
                ((EGG, EGG, even, NORTH), (3,), None), ((OVAL, EGG, even, EAST), (2, 3), None),
                ((ROUND_CAM, ROUND_CAM, (HALF, (1, 3)), SLANT), (), (5, 6)), ((AXLE, AXLE, even, WEST), (), NIL),
                ((CRANK, CRANK, even, WEST), (), TWO), ((CRANK, CRANK, even, EAST), (1,), None),
                ((CRANK, ROUND_CAM, even, EAST), (1,), None), ((ROUND_CAM, CRANK, even, EAST), (1,), None),
                ((SKEW_OVAL, SKEW_OVAL, even, NORTH), (), TWO), ((MANY_CAM, MANY_CAM, even, WEST), (2, 4, 6, 8), None),
                ((POINT, POINT, even, WEST), (), NIL), ((OVAL, SKEW_OVAL, even, NORTH), (2,), None))
        for told, playing, width in rows:
            self.assert_pair(told, playing, width)

    def test_turned_cams(self):
        for turn in TURNS[:9]:
            # What the foot of the second one meets is the oval a quarter further on, whatever way round.
            self.assert_pair((OVAL, turned(OVAL, back(turn)), (ONE, ONE), joined(turn, NORTH)), (), TWO)
            self.assert_pair((OVAL, turned(OVAL, turn), (ONE, ONE), joined(back(turn), NORTH)), (), TWO)

    def test_just_with_play(self):
        for finer in (TINY, (1, 10 ** 300)):
            other = (OVAL[0], (BLANK, (pair_of(Fraction(1, 4) - number_of(finer)), NIL)))
            self.assert_pair((OVAL, other, (ONE, ONE), NORTH), (2,), None)


class Mates(unittest.TestCase):
    def test_by_hand(self):
        rows = ((OVAL, (ONE, ONE), EAST, TWO, made(1, (0, 0), ("-1/4", 0))), (OVAL, (ONE, ONE), NORTH, TWO, OVAL),
                (OVAL, (ONE, TWO), NORTH, (3, 1), made(1, (0, 0), ("1/8", 0))),
                (EGG, (TWO, ONE), EAST, NIL, made(-2, (0, 0), (0, 0), ("-1/5", 0))),
                (ROUND_CAM, (HALF, ONE), SLANT, (-1, 1), made("-3/2")), (AXLE, (ONE, HALF), WEST, ONE, made(2)),
                (CRANK, (ONE, ONE), NORTH, TWO, made(1, (0, "-1/2"))),
                (CRANK, (ONE, ONE), SOUTH, TWO, made(1, (0, "1/2"))), (ROUND_CAM, (ONE, ONE), EAST, ONE, (NIL, ())))
        for cam, arms, turn, width, wanted in rows:
            self.assertEqual(mate(cam, arms, turn, width), wanted)
            self.assertEqual(mate(width=width, turn=turn, arms=arms, cam=cam), wanted)

    def test_they_go_without_play(self):
        for at, cam in enumerate(SOME):
            turn, arms, width = TURNS[at % 9], ARMS[at % 4], ((3, 7), NIL, (-5, 2), (BIG, 3))[at % 4]
            a, b = [number_of(arm) for arm in arms]
            wave = mate(cam, arms, turn, width)
            for spot in MANY_TURNS:
                self.assertEqual(b * reckoned(wave, spot),
                                 number_of(width) - a * reckoned(cam, joined(spot, back(turn))))
                self.assertEqual(a * reckoned(cam, spot) + b * reckoned(wave, joined(spot, turn)), number_of(width))
            roomy = pair_of(a * (abs(number_of(cam[0])) + 999))
            found = mate(cam, arms, turn, roomy)
            self.assertIs(is_mate_cam(cam, arms, turn, roomy), True)
            self.assertEqual([goes_without_play(cam, found, arms, turn), pair_width(cam, found, arms, turn)],
                             [True, roomy])

    def test_just_cams(self):
        # The bend of the oval is at most 7 / 4, that of the egg 9 / 5; the last ones do not bend at all.
        for cam, least in ((OVAL, (7, 4)), (EDGE, TWO), (SKEW_OVAL, (7, 4)), (FINE_EDGE, (16, 9)), (EGG, (9, 5)),
                           (ROUND_CAM, ONE), (AXLE, NIL), (POINT, NIL)):
            for arms in ARMS:
                at_least = number_of(arms[0]) * number_of(least)
                for finer, wanted in ((NIL, True), (TINY, True), (less(TINY), False), ((-1, 10 ** 300), False),
                                      ((-BIG, 1), False)):
                    width = pair_of(at_least + number_of(finer))
                    for turn in (EAST, SLANT, WEST):
                        self.assertIs(is_mate_cam(cam, arms, turn, width), wanted)
                        self.assertIs(is_mate_cam(width=width, turn=turn, arms=arms, cam=cam), wanted)

    def test_widths_of_nought_and_below(self):
        for cam in (OVAL, ROUND_CAM, EDGE):
            for width in (NIL, less(TINY), (-7, 1)):
                self.assertIs(is_mate_cam(cam, (ONE, ONE), EAST, width), False)
                self.assertEqual(mate(cam, (ONE, ONE), EAST, width), raised(opposite(cam), width))
        self.assertEqual([is_mate_cam(POINT, (ONE, ONE), EAST, NIL), is_mate_cam(POINT, (ONE, ONE), EAST, less(TINY))],
                         [True, False])


class Widths(unittest.TestCase):
    def test_by_hand(self):
        rows = ((OVAL, (ONE, ONE), 4, 7), (OVAL, (ONE, ONE), 3, 6), (OVAL, (ONE, ONE), 1, 2),
                (OVAL, (HALF, TINY), 8, 7), (OVAL, (HALF, TINY), 1, 1), (EDGE, (ONE, TWO), 1, 2),
                (FINE_EDGE, (ONE, ONE), 9, 16), (FINE_EDGE, (ONE, ONE), 1, 2),
                (FINE_EDGE, (ONE, ONE), FINEST, 16 * FINEST // 9 + 1), (AXLE, (ONE, ONE), 7, 0),
                (POINT, (TWO, ONE), 1, 0), (ROUND_CAM, ((7, 3), ONE), 1, 3), (ROUND_CAM, ((7, 3), ONE), 3, 7),
                (ROUND_CAM, ((7, 3), ONE), FINEST, 7 * FINEST // 3 + 1), (CRANK, (ONE, ONE), 5, 5),
                (raised(OVAL, (TINY[0], 4 * FINEST)), (ONE, ONE), 4, 8))
        for cam, arms, many, wanted in rows:
            self.assertEqual(width_near(cam, arms, many), wanted)
            self.assertEqual(width_near(many=many, arms=arms, cam=cam), wanted)

    def test_greatest_bend_without_fractions(self):
        # 1 - 3 / 10 (cos 2 t + sin 2 t) goes up to 1 and 3 / 10 of the root of 2.
        cam = made(1, (0, 0), ("1/10", "1/10"))
        for many in (1, 10, 1000, FINEST):
            self.assertEqual(width_near(cam, (ONE, ONE), many), many + isqrt(18 * many * many) // 10 + 1)

    def test_the_least_width_at_which_the_mate_is_a_cam(self):
        for at, cam in enumerate(SOME):
            arms = ARMS[at % 3]
            for many in (1, 12, FINEST):
                n = width_near(cam, arms, many)
                for turn in (EAST, SLANT):
                    found = [is_mate_cam(cam, arms, turn, pair_of(Fraction(k, many))) for k in (n - 1, n, n + 1)]
                    self.assertEqual(found, [False, True, True])

    def test_against_the_chains(self):
        for at, cam in enumerate(SOME):
            a = number_of(ARMS[at % 3][0])
            for width in (NIL, ONE, (9, 4), (20, 1)):
                left = number_of(width) / a
                self.assertIs(is_mate_cam(cam, ARMS[at % 3], NORTH, width),
                              is_nowhere_below(raised(opposite(bent(cam)), pair_of(left))))


if __name__ == "__main__":
    unittest.main()
