"""Feet: how wide they have to be, and the gaps that cams pass."""

import unittest
from fractions import Fraction

from framecams.feet import breadth_near, gap_turn, gap_word, is_even_broad, is_wide_enough, missed_turn, touch_near
from framecams.turns import is_turn
from tests.shapes import AXLE, CAMS, CRANK, CUBE, EDGE, FINE_EDGE, FINEST, MANY_CAM, POINT, SKEW_OVAL, TINY
from tests.shapes import any_cams, grown, less, made, opposite, raised
from tests.sturm import Zeros
from tests.values import EAST, EGG, HALF, MANY_TURNS, NIL, NORTH, ONE, OVAL, ROUND_CAM, SOUTH, TWO, WEST
from tests.values import number_of, pair_of, reckoned

SOME = CAMS + tuple(any_cams(7, 30))
MORE, LESS = [pair_of(Fraction(1, 2) + Fraction(k, FINEST)) for k in (1, -1)]


def broad(cam):
    """The breadth of the cam, as told: twice each even harmonic."""
    first, pairs = cam
    kept = [[2 * number_of(part) * (j % 2 == 0) for part in pair] for j, pair in enumerate(pairs, 1)]
    return made(2 * number_of(first), *kept)


def is_nowhere_below(wave):
    return -1 not in Zeros(wave).signs()


def shifted(fraction, other):
    return pair_of(number_of(fraction) + number_of(other))


class Feet(unittest.TestCase):
    def assert_wide(self, cam, low, high, wanted):
        self.assertIs(is_wide_enough(cam, low, high), wanted)
        self.assertIs(is_wide_enough(high=high, low=low, cam=cam), wanted)
        turn = missed_turn(cam, low, high)
        self.assertEqual(missed_turn(low=low, high=high, cam=cam), turn)
        if wanted:
            self.assertIsNone(turn)
        else:
            self.assertTrue(is_turn(turn))
            beside = reckoned(grown(cam), turn)
            self.assertFalse(number_of(low) <= beside <= number_of(high))

    def test_bounds_reached_at_turns_without_fractions(self):
        # The growth of the oval is - 1 / 2 sin 2 t.
        for low, high, wanted in (((-1, 2), HALF, True), (less(MORE), MORE, True), ((-1, 2), LESS, False),
                                  (less(LESS), HALF, False), (less(LESS), LESS, False), ((-7, 1), (9, 1), True),
                                  (NIL, ONE, False), ((-1, 1), NIL, False), (ONE, TWO, False)):
            self.assert_wide(OVAL, low, high, wanted)

    def test_bounds_reached_at_turns_with_fractions(self):
        # That of the skew one is 1 / 2 cos 2 t, that of the egg - 3 / 10 sin 3 t.
        for cam, most in ((SKEW_OVAL, HALF), (EGG, (3, 10)), (CRANK, HALF), (made(9, (3, 4)), (5, 1))):
            for finer, wanted in ((NIL, True), (TINY, True), (less(TINY), False)):
                high = shifted(most, finer)
                self.assert_wide(cam, less(high), high, wanted)
                self.assert_wide(cam, less(most), high, wanted)
                self.assert_wide(cam, less(high), most, wanted)

    def test_one_place_alone(self):
        for cam in (ROUND_CAM, AXLE, (TWO, ())):
            self.assert_wide(cam, NIL, NIL, True)
            self.assert_wide(cam, TINY, TINY, False)
            self.assert_wide(cam, (-5, 1), less(TINY), False)
        self.assert_wide(OVAL, NIL, NIL, False)
        self.assert_wide(POINT, NIL, NIL, False)

    def test_against_the_chains(self):
        for cam in SOME:
            touch = grown(cam)
            for low, high in (((-1, 1), (1, 1)), ((-2, 3), (5, 1)), ((-40, 1), (41, 2)), (NIL, NIL)):
                wanted = is_nowhere_below(raised(touch, less(low))) and is_nowhere_below(raised(opposite(touch), high))
                self.assert_wide(cam, low, high, wanted)

    def test_touch_near(self):
        rows = ((OVAL, 10, ((-5, True), (5, True))), (OVAL, 3, ((-2, False), (1, False))),
                (EGG, 10, ((-3, True), (3, True))),
                (EGG, FINEST, ((-3 * FINEST // 10, True), (3 * FINEST // 10, True))),
                (ROUND_CAM, 5, ((0, True), (0, True))), (made(2, (1, 1)), 10, ((-15, False), (14, False))),
                (AXLE, 1, ((0, True), (0, True))))
        for cam, many, wanted in rows:
            self.assertEqual(touch_near(cam, many), wanted)
            self.assertEqual(touch_near(many=many, cam=cam), wanted)

    def test_the_least_foot_is_wide_enough(self):
        for cam in SOME:
            for many in (1, 12, FINEST):
                (low, low_just), (high, high_just) = touch_near(cam, many)
                high += not high_just
                for a, b, wanted in ((low, high, True), (low + 1, max(low + 1, high), False),
                                     (min(low, high - 1), high - 1, False)):
                    self.assertIs(is_wide_enough(cam, pair_of(Fraction(a, many)), pair_of(Fraction(b, many))), wanted)
                for n, is_just in ((low, low_just), (high, high_just)):
                    left = Zeros(raised(grown(cam), pair_of(Fraction(-n, many))))
                    self.assertIs(is_just, left.is_nought or len(left.order) > 0)


class Gaps(unittest.TestCase):
    def assert_gap(self, cam, gap, word):
        self.assertEqual(gap_word(cam, gap), word)
        self.assertEqual(gap_word(gap=gap, cam=cam), word)
        turn = gap_turn(cam, gap)
        self.assertEqual(gap_turn(gap=gap, cam=cam), turn)
        if word == "never":
            self.assertIsNone(turn)
        elif turn is None:
            # Then there is not even a stretch at which it passes.
            self.assertTrue(is_nowhere_below(raised(broad(cam), less(gap))))
        else:
            self.assertTrue(is_turn(turn))
            self.assertLessEqual(reckoned(broad(cam), turn), number_of(gap))
        return turn

    def test_at_the_least_and_the_greatest_breadth(self):
        for cam in (OVAL, SKEW_OVAL):
            for gap, word in (((3, 2), "sometimes"), (shifted((3, 2), TINY), "sometimes"),
                              (shifted((3, 2), less(TINY)), "never"), ((5, 2), "always"),
                              (shifted((5, 2), TINY), "always"), (shifted((5, 2), less(TINY)), "sometimes"),
                              (TINY, "never"), ((10 ** 20, 1), "always")):
                self.assert_gap(cam, gap, word)

    def test_turns_with_and_without_fractions(self):
        self.assertIn(self.assert_gap(OVAL, (3, 2), "sometimes"), (NORTH, SOUTH))
        self.assertIsNone(self.assert_gap(SKEW_OVAL, (3, 2), "sometimes"))
        self.assertIsNotNone(self.assert_gap(SKEW_OVAL, shifted((3, 2), (1, 10 ** 60)), "sometimes"))
        # 11 / 9 + 4 / 9 cos 2 t - 1 / 15 cos 4 t is least at the begins of two quarters.
        self.assertIn(self.assert_gap(FINE_EDGE, pair_of(Fraction(11, 9) - Fraction(4, 9) - Fraction(1, 15)),
                                      "sometimes"), (NORTH, SOUTH))

    def test_without_even_harmonics(self):
        for cam, wide in ((EGG, TWO), (ROUND_CAM, TWO), (CRANK, TWO), (made(9, (3, 4), (0, 0), (1, "1/2")), (18, 1))):
            self.assertIs(is_even_broad(cam), True)
            self.assertIs(is_even_broad(cam=cam), True)
            self.assertIsNotNone(self.assert_gap(cam, wide, "always"))
            self.assert_gap(cam, shifted(wide, TINY), "always")
            self.assert_gap(cam, shifted(wide, less(TINY)), "never")
            self.assertEqual(breadth_near(cam, 3), ((3 * wide[0], True), (3 * wide[0], True)))

    def test_points_pass_always(self):
        for cam in (POINT, AXLE):
            self.assertIs(is_even_broad(cam), True)
            self.assertIsNotNone(self.assert_gap(cam, (1, 10 ** 399), "always"))
            self.assertEqual(breadth_near(cam, 1), ((0, True), (0, True)))

    def test_with_even_harmonics(self):
        for cam in (OVAL, SKEW_OVAL, EDGE, FINE_EDGE, MANY_CAM, CUBE):
            self.assertIs(is_even_broad(cam), False)
        self.assertIs(is_even_broad(made(99, *[(0, 0)] * 7, (0, 1))), False)

    def test_against_the_chains(self):
        for cam in SOME:
            for gap in (ONE, TWO, (7, 2), (19, 1), pair_of(2 * number_of(cam[0]) + 1)):
                room = raised(opposite(broad(cam)), gap)
                word = "always" if is_nowhere_below(room) else "never"
                if word == "never" and not (Zeros(room).signs() == (-1,) and not Zeros(room).order):
                    word = "sometimes"
                self.assert_gap(cam, gap, word)

    def test_breadth_near(self):
        rows = ((OVAL, 10, ((15, True), (25, True))), (OVAL, 1, ((1, False), (2, False))),
                (SKEW_OVAL, 10, ((15, True), (25, True))),
                (EDGE, FINEST, ((4 * FINEST // 3, False), (8 * FINEST // 3, False))), (EDGE, 3, ((4, True), (8, True))))
        for cam, many, wanted in rows:
            self.assertEqual(breadth_near(cam, many), wanted)
            self.assertEqual(breadth_near(many=many, cam=cam), wanted)
        for cam in SOME:
            (least, _), (greatest, _) = breadth_near(cam, 12)
            breadths = [12 * reckoned(broad(cam), turn) for turn in MANY_TURNS + [EAST, NORTH, WEST]]
            self.assertLessEqual(least, min(breadths))
            self.assertGreater(greatest + 1, max(breadths))
            self.assertIs(is_even_broad(cam), all(breadth == breadths[0] for breadth in breadths))


if __name__ == "__main__":
    unittest.main()
