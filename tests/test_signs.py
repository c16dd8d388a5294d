"""Signs of waves: zeros, rows, turns with a sign, least and greatest worths, against Sturm's chains and by hand."""

import unittest
from fractions import Fraction
from math import isqrt

from framecams.signs import always_above, greatest_near, least_near, never_below, row_of, turn_where, zero_near
from framecams.signs import zeros_of
from framecams.turns import back, is_turn, joined
from framecams.waves import turned
from tests.shapes import AT_EAST, AT_WEST, CORNER, CUBE, EIGHT, FAST, FAST_BOW, FINEST, LONG, MIXED, NOUGHT, SHORT
from tests.shapes import SHORTER, SLANTED, SPECIAL, SQUARED, SWING, THIRD, TINY, TOUCHING, TWICE, TWICE_BOW, BOW
from tests.shapes import any_waves, less, made, multiplied, opposite, raised
from tests.sturm import Zeros
from tests.values import EAST, EGG, LEAN, NIL, NORTH, ONE, OVAL, ROUND_CAM, SLANT, SOUTH, WEST, reckoned

MANIES = (1, 3, 10, FINEST)
SOME = tuple(any_waves(1, 60)) + tuple(any_waves(2, 6, 8))


def root_part(n, many):
    """The whole part of `many` times the root of n."""
    return isqrt(n * many * many)


def sign_at(wave, turn):
    worth = reckoned(wave, turn)
    return (worth > 0) - (worth < 0)


class Zeroes(unittest.TestCase):
    def assert_zeros(self, wave, told):
        """What the wave tells of its zeros is what Sturm's chains tell."""
        if told.is_nought:
            self.assertEqual(zeros_of(wave), "all")
            return
        self.assertEqual(zeros_of(wave), len(told.order))
        for index in range(len(told.order)):
            for many in MANIES:
                self.assertEqual(zero_near(wave, index, many), told.quarter_and_rest(index, many))

    def test_against_the_chains(self):
        for wave in SPECIAL + SOME:
            with self.subTest(wave=wave):
                told = Zeros(wave)
                self.assert_zeros(wave, told)
                self.assertEqual(row_of(wave), told.signs())
                self.assertIs(never_below(wave), -1 not in told.signs())
                self.assertIs(always_above(wave), told.signs() == (1,) and not told.order)

    def test_by_name(self):
        self.assertEqual([zeros_of(wave=OVAL), row_of(wave=SWING)], [0, (-1, 1)])
        self.assertEqual([never_below(wave=OVAL), always_above(wave=AT_EAST)], [True, False])
        self.assertEqual(zero_near(many=10, index=1, wave=SLANTED), (1, 3, False))

    def test_circles_and_the_nought_wave(self):
        for first, sign in (((1, 7), 1), ((-5, 3), -1), ((10 ** 399, 1), 1)):
            wave = (first, ())
            self.assertEqual([zeros_of(wave), row_of(wave)], [0, (sign,)])
            self.assertEqual([never_below(wave), always_above(wave)], [sign == 1, sign == 1])
        self.assertEqual([zeros_of(NOUGHT), row_of(NOUGHT)], ["all", (0,)])
        self.assertEqual([never_below(NOUGHT), always_above(NOUGHT)], [True, False])

    def test_begins_of_quarters(self):
        begins = [(quarter, 0, True) for quarter in range(4)]
        for many in MANIES:
            self.assertEqual([zero_near(TWICE_BOW, index, many) for index in range(4)], begins)
            self.assertEqual([zero_near(BOW, index, many) for index in range(2)], begins[::2])
            self.assertEqual([zero_near(SWING, index, many) for index in range(2)], begins[1::2])
            self.assertEqual([zero_near(CORNER, index, many) for index in range(2)], begins[2:])
            self.assertEqual(zero_near(AT_WEST, 0, many), begins[2])
            self.assertEqual(zero_near(AT_EAST, 0, many), begins[0])
        self.assertEqual([row_of(TWICE_BOW), row_of(BOW), row_of(CORNER)], [(1, -1, 1, -1), (1, -1), (-1, 1)])

    def test_touched_alone(self):
        for wave, many in ((AT_EAST, 1), (AT_WEST, 1), (TOUCHING, 4), (CUBE, 1), (multiplied(AT_EAST, AT_EAST), 1)):
            self.assertEqual([zeros_of(wave), row_of(wave)], [many, (1,) * many])
            self.assertEqual([never_below(wave), always_above(wave)], [True, False])
            self.assertEqual([row_of(opposite(wave)), never_below(opposite(wave))], [(-1,) * many, False])
            above, below = raised(wave, TINY), raised(wave, less(TINY))
            self.assertEqual([never_below(above), always_above(above), zeros_of(above)], [True, True, 0])
            self.assertEqual([never_below(below), always_above(below), zeros_of(below)], [False, False, 2 * many])

    def test_signs_beside_one_another_may_be_alike(self):
        wave = multiplied(AT_EAST, SWING)
        self.assertEqual([zeros_of(wave), row_of(wave)], [3, (1, -1, 1)])
        self.assertEqual(row_of(multiplied(AT_WEST, BOW)), (1, -1))
        self.assertEqual(row_of(multiplied(AT_WEST, SWING)), (-1, -1, 1))

    def test_eight_harmonics(self):
        self.assertEqual([zeros_of(FAST), row_of(FAST)], [16, (-1, 1) * 8])
        self.assertEqual([zeros_of(FAST_BOW), row_of(FAST_BOW)], [16, (1, -1) * 8])
        self.assertEqual([zero_near(FAST_BOW, index, 5) for index in range(0, 16, 4)], [(k, 0, True) for k in range(4)])
        # The rest of the half of a quarter is the root of 2 less 1.
        half = root_part(2, FINEST) - FINEST
        self.assertEqual([zero_near(FAST_BOW, 14, many) for many in (1, 10, FINEST)],
                         [(3, 0, False), (3, 4, False), (3, half, False)])

    def test_rests(self):
        for many, first, second in ((1, 0, 0), (2, 1, 0), (3, 1, 1), (10, 5, 3), (FINEST, FINEST // 2, FINEST // 3)):
            self.assertEqual(zero_near(SLANTED, 0, many), (0, first, many % 2 == 0))
            self.assertEqual(zero_near(SLANTED, 1, many), (1, second, many % 3 == 0))
        # cos 2 t is 1 / 3: the half tangent is the root of 3 less the root of 2.
        rest = root_part(3, 10 ** 30) - root_part(2, 10 ** 30)
        self.assertEqual(zero_near(TOUCHING, 0, FINEST), (0, rest // 10 ** 18, False))
        self.assertEqual([zero_near(TOUCHING, index, 1) for index in range(4)], [(k, 0, False) for k in range(4)])

    def test_a_zero_just_beside_what_is_told(self):
        for half, told in (((FINEST // 2 - 1, FINEST), 4), ((1, 2), 5), ((FINEST // 2 + 1, FINEST), 5)):
            u = Fraction(*half)
            wave = multiplied(AT_EAST, made(-2 * u / (1 + u * u), (0, 1)))
            self.assertEqual(zero_near(wave, 1, 10), (0, told, half == (1, 2)))
            self.assertEqual(zero_near(wave, 1, FINEST), (0, u * FINEST, True))

    def test_many_figures(self):
        told = Zeros(LONG)
        self.assertEqual([zeros_of(LONG), row_of(LONG)], [len(told.order), told.signs()])
        for index in range(len(told.order)):
            self.assertEqual(zero_near(LONG, index, FINEST), told.quarter_and_rest(index, FINEST))


class TurnWhere(unittest.TestCase):
    def assert_turns(self, wave):
        row = row_of(wave)
        for sign in (-1, 1):
            turn = turn_where(wave, sign)
            if sign in row:
                self.assertTrue(is_turn(turn))
                self.assertEqual(sign_at(wave, turn), sign)
            else:
                self.assertIsNone(turn)

    def test_signs_that_it_has_and_others(self):
        for wave in SPECIAL + SOME:
            with self.subTest(wave=wave):
                self.assert_turns(wave)
                turn = turn_where(sign=0, wave=wave)
                self.assertTrue(turn is None or is_turn(turn) and sign_at(wave, turn) == 0)

    def test_on_a_short_stretch_alone(self):
        for wave in (SHORT, SHORTER, raised(opposite(CUBE), TINY), raised(opposite(SQUARED), TINY)):
            self.assertEqual(sign_at(wave, turn_where(wave, 1)), 1)
            self.assertEqual(sign_at(opposite(wave), turn_where(opposite(wave), -1)), -1)
        finer = raised(opposite(TOUCHING), (1, 10 ** 100))
        self.assertEqual(sign_at(finer, turn_where(finer, 1)), 1)

    def test_on_a_short_stretch_within_each_quarter(self):
        for begin in (EAST, NORTH, WEST, SOUTH):
            for turn in (joined(begin, SLANT), joined(begin, ((12, 13), (5, 13)))):
                around = turned(AT_EAST, back(turn))
                for steps in (opposite(around), multiplied(opposite(around), multiplied(CUBE, CUBE))):
                    wave = raised(steps, TINY)
                    self.assertEqual(sign_at(wave, turn_where(wave, 1)), 1)
                    self.assertEqual(sign_at(opposite(wave), turn_where(opposite(wave), -1)), -1)
                    self.assertEqual(turn_where(steps, 0), turn)

    def test_zeros_told_by_fractions(self):
        rows = ((SWING, (NORTH, SOUTH)), (BOW, (EAST, WEST)), (AT_EAST, (EAST,)), (AT_WEST, (WEST,)),
                (SLANTED, (SLANT, ((-3, 5), (4, 5)))), (CORNER, (WEST, SOUTH)), (multiplied(THIRD, AT_WEST), (WEST,)),
                (multiplied(THIRD, multiplied(AT_EAST, AT_EAST)), (EAST,)), (SQUARED, (EAST,)),
                (FAST_BOW, (EAST, NORTH, WEST, SOUTH)),
                (multiplied(SLANTED, multiplied(TWICE, CUBE)), (SLANT, ((-3, 5), (4, 5)))))
        for wave, wanted in rows:
            self.assertIn(turn_where(wave, 0), wanted)
            self.assertIn(turn_where(opposite(wave), 0), wanted)
        self.assertEqual(sign_at(MIXED, turn_where(MIXED, 0)), 0)

    def test_a_zero_of_many_figures(self):
        for u in (Fraction(3 ** 40, 7 ** 31), Fraction(-10 ** 60, 11 ** 19)):
            c, s = (1 - u * u) / (1 + u * u), 2 * u / (1 + u * u)
            # cos of the angle between is 1 at this turn alone.
            wave = multiplied(made(1, (-c, -s)), TOUCHING)
            self.assertEqual(turn_where(wave, 0), ((c.numerator, c.denominator), (s.numerator, s.denominator)))

    def test_no_zeros_told_by_fractions(self):
        for wave in (ROUND_CAM, OVAL, EGG, LEAN, TWICE, FAST, THIRD, TOUCHING, CUBE, SHORT, SHORTER,
                     raised(SWING, (1, 3))):
            self.assertIsNone(turn_where(wave, 0))

    def test_the_nought_wave(self):
        self.assertTrue(is_turn(turn_where(NOUGHT, 0)))
        self.assertEqual([turn_where(NOUGHT, -1), turn_where(NOUGHT, 1)], [None, None])


class Bounds(unittest.TestCase):
    def assert_bounds(self, wave, many):
        """n / many is not above the least worth, (n + 1) / many is, by the signs of what is left; and so on."""
        n, is_just = least_near(wave, many)
        here, above = [Zeros(raised(wave, less(Fraction(k, many).as_integer_ratio()))) for k in (n, n + 1)]
        self.assertNotIn(-1, here.signs())
        self.assertIs(is_just, here.is_nought or len(here.order) > 0)
        self.assertIn(-1, above.signs())
        n, is_just = greatest_near(wave, many)
        here, above = [Zeros(raised(wave, less(Fraction(k, many).as_integer_ratio()))) for k in (n, n + 1)]
        self.assertIs(is_just, 1 not in here.signs())
        self.assertTrue(is_just or 1 in here.signs())
        self.assertEqual(set(above.signs()), {-1})
        self.assertEqual(len(above.order), 0)

    def test_against_the_chains(self):
        for at, wave in enumerate(SPECIAL + SOME):
            with self.subTest(wave=wave):
                self.assert_bounds(wave, MANIES[at % len(MANIES)])
                self.assert_bounds(wave, 6)

    def test_by_hand(self):
        rows = ((LEAN, 6, (1, True), (11, True)), (LEAN, 10, (1, False), (18, False)),
                (LEAN, 1, (0, False), (1, False)), (made(0, (3, 4)), 1, (-5, True), (5, True)),
                (made(0, (1, 1)), 10, (-15, False), (14, False)), (made(0, (1, 1)), 1, (-2, False), (1, False)),
                (FAST, 7, (-7, True), (7, True)), (OVAL, FINEST, (750 * 10 ** 9, True), (1250 * 10 ** 9, True)),
                (ROUND_CAM, 3, (3, True), (3, True)), (made("-1/3"), 10, (-4, False), (-4, False)),
                (made("-1/3"), 3, (-1, True), (-1, True)), (NOUGHT, 5, (0, True), (0, True)),
                (raised(SWING, (-7, 2)), 1, (-5, False), (-3, False)))
        for wave, many, least, greatest in rows:
            self.assertEqual([least_near(wave, many), greatest_near(wave, many)], [least, greatest])
            self.assertEqual([least_near(many=many, wave=wave), greatest_near(many=many, wave=wave)], [least, greatest])

    def test_the_root_of_two(self):
        n = root_part(2, FINEST)
        self.assertEqual(greatest_near(made(0, (1, 1)), FINEST), (n, False))
        self.assertEqual(least_near(made(0, (1, 1)), FINEST), (-n - 1, False))

    def test_just_told_at_turns_without_fractions(self):
        for wave in (TOUCHING, CUBE):
            for fraction in (NIL, (1, 7), (-1, 7), (-5, 1)):
                lifted = raised(wave, fraction)
                self.assertEqual(least_near(lifted, 7), (7 * fraction[0] // fraction[1], True))
                self.assertEqual(greatest_near(opposite(lifted), 7), (-7 * fraction[0] // fraction[1], True))
        self.assertEqual(least_near(raised(TOUCHING, (-1, 7)), 10), (-2, False))

    def test_just_beside_what_is_told(self):
        for wave in (TOUCHING, CUBE, AT_WEST, SQUARED):
            for finer in (TINY, (1, 10 ** 60)):
                self.assertEqual(least_near(raised(wave, finer), 10), (0, False))
                self.assertEqual(least_near(raised(wave, less(finer)), 10), (-1, False))
                self.assertEqual(greatest_near(opposite(raised(wave, finer)), 10), (-1, False))
                self.assertEqual(greatest_near(opposite(raised(wave, less(finer))), 10), (0, False))
            self.assertEqual(least_near(raised(wave, TINY), FINEST), (1, True))
            self.assertEqual(least_near(raised(wave, less(TINY)), FINEST), (-1, True))

    def test_many_figures(self):
        for wave in (EIGHT, opposite(EIGHT), LONG, opposite(LONG)):
            n, is_just = least_near(wave, FINEST)
            self.assertIs(is_just, False)
            self.assertEqual(greatest_near(opposite(wave), FINEST), (-n - 1, False))
            below, above = [raised(wave, less(Fraction(k, FINEST).as_integer_ratio())) for k in (n, n + 1)]
            self.assertEqual([always_above(below), never_below(above)], [True, False])
        self.assertEqual(least_near((ONE, (((10 ** 399, 1), NIL),)), 3), (3 - 3 * 10 ** 399, True))


if __name__ == "__main__":
    unittest.main()
