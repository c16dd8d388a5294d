"""Speeds: bearing waves, kept feet, greatest squares, pressing, turning forces."""

import itertools
import unittest
from fractions import Fraction
from math import isqrt

from framecams.errors import NotKept, NotPressed, NotSmooth
from framecams.speeds import bearing_wave, is_kept, leaving_turn, presses_at_most, pressing_near, square_near
from framecams.speeds import turning_at, turning_near
from framecams.turns import is_turn
from framecams.wholes import wave_product
from tests.shapes import AXLE, CAMS, CRANK, CUBE, EDGE, EIGHT, FINEST, FINE_EDGE, MANY_CAM, POINT, SKEW_OVAL
from tests.shapes import SPECIAL, TINY
from tests.shapes import any_cams, bent, grown, less, made, multiplied, numbers_of, opposite, raised
from tests.sturm import Zeros
from tests.values import BIG, EGG, HALF, MANY_TURNS, NIL, ONE, OVAL, ROUND_CAM, SLANT, TURNS, TWO, number_of, pair_of
from tests.values import reckoned

COIL, PLAIN = (ONE, ONE, HALF), (ONE, ONE, NIL)
SPRINGS = (COIL, PLAIN, (HALF, (3, 2), (2, 1)), ((3, 1), TINY, (5, 1)), (TINY, (BIG, 1), (-1, 7)))
SQUARES = (NIL, (1, 7), ONE, (22, 7))
# 5 + 3 cos t + 4 sin t: 0 at one turn.
RESTING = made(5, (3, 4))
# (1 - cos t) times itself: at (1, 0) the lift and what it grows by, once, twice and three times, are 0.
FLAT = multiplied(made(1, (-1, 0)), made(1, (-1, 0)))
SOME = CAMS + tuple(any_cams(31, 12, 3))


def borne(cam, spring, square):
    """The bearing wave, number by number."""
    mass, stiff, press = [number_of(told) for told in spring]
    first, *pairs = numbers_of(cam)
    shares = [stiff - mass * number_of(square) * j * j for j in range(1, len(pairs) + 1)]
    return made(stiff * (first + press), *[(share * p, share * q) for share, (p, q) in zip(shares, pairs)])


def is_nowhere_below(wave):
    return -1 not in Zeros(wave).signs()


def is_surely_kept(cam, spring, square):
    return is_nowhere_below(borne(cam, spring, square))


def beside(n, many, step=0):
    return pair_of(Fraction(n, many) + step)


class Bearing(unittest.TestCase):
    def test_by_hand(self):
        rows = ((OVAL, COIL, NIL, made("3/2", (0, 0), ("1/4", 0))), (OVAL, COIL, (1, 4), made("3/2")),
                (OVAL, (TWO, (3, 1), (-1, 1)), ONE, made(0, (0, 0), ("-5/4", 0))),
                (CRANK, PLAIN, TWO, made(1, ("-1/2", 0))), (ROUND_CAM, (HALF, (1, 3), (-5, 1)), (BIG, 1), made("-4/3")),
                (EGG, PLAIN, (1, 9), made(1)), (AXLE, PLAIN, ONE, (NIL, ())))
        for cam, spring, square, wanted in rows:
            self.assertEqual(bearing_wave(cam, spring, square), wanted)
            self.assertEqual(bearing_wave(square=square, spring=spring, cam=cam), wanted)

    def test_numbers(self):
        for cam in SOME:
            for spring in SPRINGS:
                for square in SQUARES:
                    self.assertEqual(bearing_wave(cam, spring, square), borne(cam, spring, square))


class Kept(unittest.TestCase):
    def assert_kept(self, cam, spring, square, wanted):
        self.assertIs(is_kept(cam, spring, square), wanted)
        self.assertIs(is_kept(square=square, spring=spring, cam=cam), wanted)
        turn = leaving_turn(cam, spring, square)
        self.assertEqual(leaving_turn(square=square, spring=spring, cam=cam), turn)
        if wanted:
            self.assertIsNone(turn)
        else:
            self.assertTrue(is_turn(turn))
            self.assertLess(reckoned(borne(cam, spring, square), turn), 0)

    def test_just_kept(self):
        # At the square 1 the plain spring lets the foot bear the bend: 0 at turns with fractions, and without.
        for cam, spring, last in ((EDGE, PLAIN, ONE), (FINE_EDGE, PLAIN, ONE), (OVAL, COIL, (7, 4)),
                                  (SKEW_OVAL, COIL, (7, 4)), (RESTING, PLAIN, TWO),
                                  (RESTING, ((3, 1), ONE, NIL), (2, 3)), (CRANK, PLAIN, (3, 1)),
                                  (OVAL, (ONE, ONE, (-3, 4)), HALF)):
            for finer, wanted in ((NIL, True), (less(TINY), True), (TINY, False), ((1, 10 ** 100), False),
                                  ((5, 1), False)):
                self.assert_kept(cam, spring, pair_of(number_of(last) + number_of(finer)), wanted)

    def test_at_rest(self):
        for cam, press, wanted in ((OVAL, (-3, 4), True), (OVAL, (-4, 5), False), (RESTING, NIL, True),
                                   (RESTING, less(TINY), False), (CUBE, NIL, True), (CUBE, less(TINY), False),
                                   (ROUND_CAM, (-1, 1), True), (ROUND_CAM, (-2, 1), False), (AXLE, NIL, True),
                                   (AXLE, less(TINY), False), (POINT, (4, 1), True), (POINT, (3, 1), False)):
            self.assert_kept(cam, (HALF, TINY, press), NIL, wanted)

    def test_round_cams(self):
        for square in (NIL, ONE, (BIG, 1)):
            for press, wanted in ((HALF, True), ((-1, 1), True), ((-3, 2), False)):
                self.assert_kept(ROUND_CAM, (ONE, TWO, press), square, wanted)

    def test_against_the_chains(self):
        for cam in SOME:
            for spring in SPRINGS[:4]:
                for square in SQUARES:
                    self.assert_kept(cam, spring, square, is_surely_kept(cam, spring, square))


class Squares(unittest.TestCase):
    def test_by_hand(self):
        rows = ((OVAL, COIL, 100, (175, True)), (OVAL, COIL, 3, (5, False)), (OVAL, COIL, 1, (1, False)),
                (SKEW_OVAL, COIL, FINEST, (7 * FINEST // 4, True)), (ROUND_CAM, COIL, 3, None), (AXLE, PLAIN, 1, None),
                ((TWO, ()), (ONE, ONE, (-2, 1)), 5, None), (EDGE, PLAIN, 7, (7, True)),
                (FINE_EDGE, PLAIN, 7, (7, True)), (FINE_EDGE, PLAIN, FINEST, (FINEST, True)),
                (CRANK, PLAIN, 1, (3, True)), (CRANK, (TWO, PLAIN[1], NIL), 1, (1, False)),
                (CRANK, (TWO, ONE, NIL), 4, (6, True)), (OVAL, (ONE, ONE, (-3, 4)), 8, (4, True)),
                (OVAL, (ONE, ONE, (BIG, 1)), 1, (BIG + 1, False)))
        for cam, spring, many, wanted in rows:
            self.assertEqual(square_near(cam, spring, many), wanted)
            self.assertEqual(square_near(many=many, spring=spring, cam=cam), wanted)

    def test_where_the_foot_bears_nothing_at_rest_somewhere(self):
        # There a greater square does not take it off; what is told is not its end for that.
        rows = ((RESTING, PLAIN, 1, (2, True)), (RESTING, ((3, 1), ONE, NIL), 3, (2, True)),
                (RESTING, ((3, 1), ONE, NIL), 10, (6, False)), (RESTING, ((3, 1), ONE, NIL), 1, (0, False)))
        for cam, spring, many, wanted in rows:
            self.assertEqual(square_near(cam, spring, many), wanted)
        rows = ((ONE, 1, (1, True)), (ONE, 10, (10, True)), ((3, 1), 3, (1, True)), ((3, 1), 10, (3, False)))
        for mass, many, wanted in rows:
            self.assertEqual(square_near(FLAT, (mass, ONE, NIL), many), wanted)
        for many in (1, 10, 997, FINEST):
            self.assert_near(CUBE, PLAIN, many)
            self.assert_near(EDGE, (ONE, ONE, (-2, 3)), many)

    def assert_near(self, cam, spring, many):
        """Kept at n / many, not at (n + 1) / many, and a little behind n / many only if this is not the last one."""
        n, is_just = square_near(cam, spring, many)
        found = [is_surely_kept(cam, spring, beside(n, many, step))
                 for step in (0, Fraction(1, 10 ** 60), Fraction(1, many))]
        self.assertEqual(found, [True, not is_just, False])

    def test_against_the_chains(self):
        for at, cam in enumerate(SOME):
            for spring in SPRINGS[:4]:
                if is_surely_kept(cam, spring, NIL):
                    many = (1, 3, 10, 10 ** 6)[at % 4]
                    if cam[1]:
                        self.assert_near(cam, spring, many)
                    else:
                        self.assertIsNone(square_near(cam, spring, many))
                else:
                    with self.assertRaises(NotPressed) as caught:
                        square_near(cam, spring, 3)
                    self.assertEqual(vars(caught.exception), {})

    def test_not_pressed(self):
        for cam, spring in ((OVAL, (ONE, ONE, (-2, 1))), (OVAL, (ONE, ONE, pair_of(Fraction(-3, 4) - number_of(TINY)))),
                            (ROUND_CAM, (ONE, TWO, (-2, 1))), (CUBE, (ONE, ONE, less(TINY))),
                            (AXLE, (ONE, ONE, (-1, 9)))):
            for many in (1, FINEST):
                self.assertRaises(NotPressed, square_near, cam, spring, many)
                self.assertRaises(NotPressed, square_near, many=many, spring=spring, cam=cam)


class Pressing(unittest.TestCase):
    def assert_pressing(self, told, many, wanted):
        cam, spring, square = told
        self.assertEqual(pressing_near(cam, spring, square, many), wanted)
        self.assertEqual(pressing_near(many=many, square=square, spring=spring, cam=cam), wanted)
        n, is_just = wanted
        for k, at_most in ((n - 1, False), (n, is_just), (n + 1, True)):
            level = beside(k, many)
            self.assertIs(presses_at_most(cam, spring, square, level), at_most)
            self.assertIs(presses_at_most(level=level, square=square, spring=spring, cam=cam), at_most)

    def test_by_hand(self):
        # With the last spring 1 times the bend less what the foot bears is 0 where cos 2 t is 1 / 3, and above 0 else.
        fine = made(2, (0, 0), ("1/6", 0), (0, 0), ("-1/32", 0))
        rows = (((OVAL, COIL, (1, 4)), 10, (60, True)), ((OVAL, COIL, (1, 4)), 7, (42, True)),
                ((ROUND_CAM, COIL, TWO), 4, (6, True)), ((ROUND_CAM, COIL, (BIG, 1)), 1, (1, False)),
                ((SKEW_OVAL, COIL, (1, 4)), FINEST, (6 * FINEST, True)), ((OVAL, COIL, (7, 4)), 4, (6, False)),
                ((CRANK, PLAIN, NIL), 2, (3, True)), ((CRANK, PLAIN, ONE), 7, (7, True)),
                ((ROUND_CAM, (ONE, ONE, (-1, 1)), TWO), 5, (0, True)),
                ((OVAL, (ONE, ONE, (-1, 1)), (1, 4)), 5, (0, True)),
                ((OVAL, (ONE, (1, 3), COIL[2]), (1, 12)), 10, (20, True)),
                ((fine, (ONE, ONE, (-11, 18)), NIL), 1, (1, True)),
                ((fine, (ONE, ONE, (-11, 18)), NIL), FINEST, (FINEST, True)),
                ((raised(fine, TINY), (ONE, ONE, (-11, 18)), NIL), 1, (1, True)),
                ((fine, (ONE, ONE, pair_of(number_of(TINY) - Fraction(11, 18))), NIL), 10, (10, False)),
                ((fine, (ONE, ONE, pair_of(Fraction(-11, 18) - number_of(TINY))), NIL), 10, (9, False)))
        for told, many, wanted in rows:
            self.assert_pressing(told, many, wanted)

    def test_a_root(self):
        # 1 + 1 / 2 (cos t + sin t) at rest on a round cam: up to 1 and half the root of 2.
        for many in (1, 10, FINEST):
            self.assert_pressing((made(1, ("1/2", "1/2")), PLAIN, NIL), many, (many + isqrt(many * many // 2), False))

    def test_a_cam_that_is_hardly_smooth(self):
        for cam in (EDGE, FINE_EDGE):
            sharp = raised(cam, TINY)
            n, is_just = pressing_near(sharp, PLAIN, NIL, 1)
            for k, at_most in ((n - 1, False), (n, is_just), (n + 1, True)):
                self.assertIs(presses_at_most(sharp, PLAIN, NIL, (k, 1)), at_most)
                self.assertIs(is_nowhere_below(raised_bend(sharp, PLAIN, NIL, (k, 1))), at_most)

    def test_against_the_chains(self):
        for at, cam in enumerate(SOME):
            for spring, square in zip(SPRINGS, SQUARES):
                bend, many = Zeros(bent(cam)), (1, 3, 10, 10 ** 6)[at % 4]
                if bend.signs() != (1,) or bend.order:
                    self.assertRaises(NotSmooth, pressing_near, cam, spring, square, many)
                    self.assertRaises(NotSmooth, presses_at_most, cam, spring, square, ONE)
                elif not is_surely_kept(cam, spring, square):
                    self.assertRaises(NotKept, pressing_near, cam, spring, square, many)
                    self.assertRaises(NotKept, presses_at_most, cam, spring, square, ONE)
                else:
                    n, is_just = pressing_near(cam, spring, square, many)
                    found = [is_nowhere_below(raised_bend(cam, spring, square, beside(n, many, step)))
                             for step in (Fraction(-1, 10 ** 60), 0, Fraction(1, many))]
                    self.assertEqual(found, [False, is_just, True])
                    self.assert_pressing((cam, spring, square), many, (n, is_just))

    def test_not_smooth_comes_ahead_of_not_kept(self):
        gone = (ONE, ONE, (-9, 1))
        for cam, kind in ((EDGE, NotSmooth), (FINE_EDGE, NotSmooth), (AXLE, NotSmooth), (POINT, NotSmooth),
                          (OVAL, NotKept), (ROUND_CAM, NotKept), (raised(EDGE, TINY), NotKept)):
            for call in (lambda: pressing_near(cam, gone, ONE, 3),
                         lambda: presses_at_most(level=ONE, square=ONE, spring=gone, cam=cam)):
                with self.assertRaises(kind) as caught:
                    call()
                self.assertEqual(vars(caught.exception), {})
        self.assertRaises(NotSmooth, pressing_near, EDGE, PLAIN, NIL, 1)
        self.assertRaises(NotKept, presses_at_most, OVAL, COIL, pair_of(Fraction(7, 4) + number_of(TINY)), (BIG, 1))
        self.assertIs(presses_at_most(OVAL, COIL, (7, 4), (BIG, 1)), True)


def raised_bend(cam, spring, square, level):
    """The level times the bend less what the foot bears."""
    one, two = numbers_of(bent(cam)), numbers_of(opposite(borne(cam, spring, square)))
    most = max(len(one), len(two))
    one, two = one + [(0, 0)] * (most - len(one)), two + [(0, 0)] * (most - len(two))
    times = number_of(level)
    return made(times * one[0] + two[0], *[(times * p + a, times * q + b) for (p, q), (a, b) in zip(one[1:], two[1:])])


class Turning(unittest.TestCase):
    def test_at_turns(self):
        for cam in SOME:
            for spring, square in zip(SPRINGS, SQUARES):
                for turn in TURNS[4:9]:
                    wanted = reckoned(borne(cam, spring, square), turn) * reckoned(grown(cam), turn)
                    self.assertEqual(turning_at(cam, spring, square, turn), pair_of(wanted))
                    self.assertEqual(turning_at(turn=turn, square=square, spring=spring, cam=cam), pair_of(wanted))

    def test_by_hand(self):
        rows = ((OVAL, COIL, (1, 4), 8, ((-6, True), (6, True))), (OVAL, COIL, (1, 4), 1, ((-1, False), (0, False))),
                (ROUND_CAM, COIL, TWO, 3, ((0, True), (0, True))),
                (SKEW_OVAL, COIL, (1, 4), FINEST, ((-3 * FINEST // 4, True), (3 * FINEST // 4, True))),
                (CRANK, PLAIN, ONE, 10, ((-5, True), (5, True))),
                (POINT, (ONE, ONE, (2, 1)), ONE, 4, ((-25, False), (24, False))),
                (made(0, (3, 4)), (ONE, ONE, (2, 1)), ONE, 7, ((-70, True), (70, True))))
        for cam, spring, square, many, wanted in rows:
            self.assertEqual(turning_near(cam, spring, square, many), wanted)
            self.assertEqual(turning_near(many=many, square=square, spring=spring, cam=cam), wanted)
        self.assertEqual(turning_at(OVAL, COIL, (1, 4), SLANT), (-18, 25))

    def test_products_of_waves(self):
        for one, other in itertools.product(SPECIAL, repeat=2):
            self.assertEqual(wave_product(one, other), multiplied(one, other))

    def test_0_at_all_turns(self):
        # Round cams and the axle; feet that bear nothing anywhere.
        for cam, spring, square in ((ROUND_CAM, COIL, NIL), (AXLE, PLAIN, (BIG, 1)),
                                    ((TWO, ()), (ONE, ONE, (-9, 1)), ONE), (OVAL, (ONE, ONE, (-1, 1)), (1, 4)),
                                    (EGG, (HALF, (9, 1), (-1, 1)), TWO), (POINT, PLAIN, ONE),
                                    (made(7, (3, 4)), (TINY, TINY, (-7, 1)), ONE)):
            for many in (1, FINEST):
                self.assertEqual(turning_near(cam, spring, square, many), ((0, True), (0, True)))
            self.assertEqual({turning_at(cam, spring, square, turn) for turn in TURNS}, {NIL})

    def test_the_foot_need_not_be_kept(self):
        gone = (ONE, ONE, (-9, 1))
        self.assertEqual(turning_near(OVAL, gone, (1, 4), 1), ((-4, True), (4, True)))
        self.assertEqual(turning_at(EDGE, gone, NIL, SLANT),
                         pair_of(reckoned(borne(EDGE, gone, NIL), SLANT) * reckoned(grown(EDGE), SLANT)))

    def test_bounds_of_two_harmonics(self):
        # At rest the egg presses with 1 + 1 / 10 cos 3 t: with y for sin 3 t and x for cos 3 t, - 3 / 100 y (10 + x).
        (least, low_just), (greatest, high_just) = turning_near(EGG, PLAIN, NIL, 10 ** 6)
        self.assertEqual([least, low_just, high_just], [-greatest - 1, False, False])
        best = max(abs(-3 * y * (10 + x)) / 100 for x, y in unit_pairs())
        self.assertAlmostEqual(greatest / 10 ** 6, best, places=5)

    def test_against_the_chains(self):
        for at, cam in enumerate(any_cams(41, 24, 2) + [OVAL, EGG, EDGE, CRANK, POINT, RESTING, CUBE]):
            spring, square, many = SPRINGS[at % 4], SQUARES[at % 3], (1, 3, 10, 1000)[at % 4]
            force = multiplied(borne(cam, spring, square), grown(cam))
            for (n, is_just), wave in zip(turning_near(cam, spring, square, many), (force, opposite(force))):
                # The greatest is the least of the opposite, from the other side.
                least = n if wave == force else -n if is_just else -n - 1
                here, above = [Zeros(raised(wave, beside(-k, many))) for k in (least, least + 1)]
                self.assertNotIn(-1, here.signs())
                self.assertIs(is_just, here.is_nought or len(here.order) > 0)
                self.assertIn(-1, above.signs())

    def test_sixteen_harmonics(self):
        for cam in (MANY_CAM, raised(EIGHT, (200, 1))):
            for spring, square in ((COIL, (1, 70)), (PLAIN, NIL), (SPRINGS[2], TWO)):
                forces = [number_of(turning_at(cam, spring, square, turn)) for turn in MANY_TURNS]
                (least, _), (greatest, _) = turning_near(cam, spring, square, 1000)
                self.assertTrue(least <= 1000 * min(forces) and 1000 * max(forces) < greatest + 1)
                self.assertTrue(least < 0 < greatest)
                finer = turning_near(cam, spring, square, FINEST)
                self.assertEqual([finer[0][0] // 10 ** 9, finer[1][0] // 10 ** 9], [least, greatest])


def unit_pairs(many=10 ** 4):
    """Points of the circle, close by one another."""
    for k in range(-many, many + 1):
        u = k / many * 3
        yield (1 - u * u) / (1 + u * u), 2 * u / (1 + u * u)


if __name__ == "__main__":
    unittest.main()
