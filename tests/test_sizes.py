"""Sizes: ways round, areas, mixed areas, moments, middles, balance, deficits and gaps."""

import unittest
from fractions import Fraction

from framecams.errors import InvalidCam, IsPoint
from framecams.sizes import area, balanced, deficit, is_balanced, middle, mixed_area, mixed_gap, moments, way_round
from framecams.waves import is_wave, moved
from tests.shapes import AXLE, BOW, CAMS, CRANK, EDGE, EIGHT, FINE_EDGE, MANY_CAM, POINT, SKEW_OVAL, SWING
from tests.shapes import WIDE, any_cams, bent, grown, made, multiplied, numbers_of, raised
from tests.test_nevers import carried, summed
from tests.values import BIG, EAST, EGG, HALF, NIL, NORTH, OVAL, ROUND_CAM, SLANT, TURNS, TWO, WEST
from tests.values import is_reduced, number_of, pair_of

SOME = CAMS + tuple(any_cams(51, 20, 8))
POINTS = (POINT, AXLE, made(0, (0, 1)), made(0, (BIG, Fraction(-1, BIG))))
ROUND_ONES = (ROUND_CAM, CRANK, made("7/3", (BIG, 0)), made(1, (2, -3)), (TWO, ()), made(Fraction(1, BIG), (1, 1)))
PLACES = ((HALF, NIL), (NIL, (-3, 7)), ((BIG, 7), (1, BIG)))


def times(wave, number):
    """The wave multiplied by one of Python's own numbers."""
    first, *pairs = numbers_of(wave)
    return made(first * number, *[(p * number, q * number) for p, q in pairs])


def mean(wave):
    return number_of(wave[0])


def reckoned_area(cam, other):
    """The mean of the one's lift times the other one's radius."""
    return mean(multiplied(cam, bent(other)))


def reckoned_moments(cam):
    """As the document tells them: two thirds of two means."""
    share = multiplied(cam, bent(cam))
    along, beside = cam, grown(cam)
    x = summed(multiplied(along, SWING), times(multiplied(beside, BOW), -1))
    y = summed(multiplied(along, BOW), multiplied(beside, SWING))
    return tuple(Fraction(2, 3) * mean(multiplied(share, told)) for told in (x, y))


class Sizes(unittest.TestCase):
    def assert_told(self, function, told, wanted):
        """The function tells this fraction, by position and by name."""
        found = function(*told)
        self.assertEqual(found, pair_of(Fraction(wanted)))
        self.assertTrue(is_reduced(found))
        names = ("cam", "other")[:len(told)]
        self.assertEqual(function(**dict(reversed(list(zip(names, told))))), found)

    def test_ways_round(self):
        for cam in SOME + POINTS + ROUND_ONES:
            self.assert_told(way_round, (cam,), 2 * number_of(cam[0]))

    def test_areas(self):
        for cam in SOME + POINTS + ROUND_ONES:
            self.assert_told(area, (cam,), reckoned_area(cam, cam))
            self.assertEqual(area(cam)[0] > 0, cam[0] != NIL)

    def test_areas_by_hand(self):
        rows = ((OVAL, "29/32"), (EGG, "24/25"), (ROUND_CAM, 1), ((TWO, ()), 4),
                (CRANK, 1), (POINT, 0), (AXLE, 0), (SKEW_OVAL, "29/32"), (EDGE, "5/6"), (made(10, (7, 8)), 100),
                (made(100, *[(0, 0)] * 7, (1, "1/3")), Fraction(10 ** 4) - Fraction(63, 2) * Fraction(10, 9)))
        for cam, wanted in rows:
            self.assert_told(area, (cam,), wanted)
            self.assert_told(mixed_area, (cam, cam), wanted)

    def test_the_axle_anywhere(self):
        for at, cam in enumerate(SOME):
            for place in PLACES:
                other = carried(moved(cam, place), TURNS[at % 9])
                for function in (way_round, area, deficit):
                    self.assertEqual(function(other), function(cam))
                self.assertEqual(mixed_area(moved(cam, place), EGG), mixed_area(cam, EGG))
                self.assertEqual(mixed_gap(cam, moved(cam, place)), NIL)

    def test_mixed_areas_by_hand(self):
        rows = ((OVAL, ROUND_CAM, 1), (OVAL, carried(OVAL, NORTH), "35/32"), (OVAL, SKEW_OVAL, 1), (OVAL, EGG, 1),
                (EGG, carried(EGG, WEST), "26/25"), (CRANK, made(1, (-5, 7)), 1), (POINT, OVAL, 0), (AXLE, POINT, 0),
                ((TWO, ()), made("3/7"), "6/7"))
        for cam, other, wanted in rows:
            self.assert_told(mixed_area, (cam, other), wanted)
            self.assert_told(mixed_area, (other, cam), wanted)

    def test_areas_of_added_cams(self):
        for at, cam in enumerate(SOME + POINTS):
            other = SOME[at * 7 % len(SOME)]
            mixed = number_of(mixed_area(cam, other))
            self.assertEqual(mixed, reckoned_area(cam, other))
            self.assert_told(mixed_area, (other, cam), mixed)
            for a, b in ((1, 1), (Fraction(2, 3), 5), (0, 2), (BIG, Fraction(1, BIG))):
                whole = summed(times(cam, a), times(other, b))
                parts = a * a * number_of(area(cam)) + 2 * a * b * mixed + b * b * number_of(area(other))
                self.assert_told(area, (whole,), parts)


class Moments(unittest.TestCase):
    def assert_moments(self, cam, x, y):
        """The moments, and the middle and the balance that follow."""
        wanted = (pair_of(Fraction(x)), pair_of(Fraction(y)))
        self.assertEqual([moments(cam), moments(cam=cam)], [wanted, wanted])
        self.assertTrue(all(is_reduced(told) for told in moments(cam)))
        place = None
        if cam[0] != NIL:
            share = reckoned_area(cam, cam)
            place = (pair_of(Fraction(x) / share), pair_of(Fraction(y) / share))
        self.assertEqual([middle(cam), middle(cam=cam)], [place, place])
        for told in (is_balanced(cam), is_balanced(cam=cam)):
            self.assertIs(told, x == 0 and y == 0)

    def test_against_the_means(self):
        for cam in SOME + POINTS + ROUND_ONES:
            self.assert_moments(cam, *reckoned_moments(cam))

    def test_by_hand(self):
        odd = made(1, (0, 0), ("1/8", 0), ("1/16", 0))
        rows = ((CRANK, HALF, 0), (ROUND_CAM, 0, 0), (OVAL, 0, 0), (EGG, 0, 0), (odd, "-73/4096", 0),
                (made(2, (3, -5)), 12, -20), (carried(odd, NORTH), 0, "73/4096"), (POINT, 0, 0), (AXLE, 0, 0),
                (made(1, (0, 0), (0, 0), (0, 0), ("1/20", 0)), 0, 0))
        for cam, x, y in rows:
            self.assert_moments(cam, number_of(x) if isinstance(x, tuple) else Fraction(x), Fraction(y))

    def test_a_formula(self):
        # 1 + a cos 2 t + b cos 3 t has the moment - 2 a b - 9 a a b / 4.
        for a, b in (("1/8", "1/16"), ("-1/7", "1/15"), ("1/9", "-1/13"), ("1/100", 0), (0, "1/11")):
            cam = made(1, (0, 0), (a, 0), (b, 0))
            a, b = Fraction(a), Fraction(b)
            self.assert_moments(cam, -2 * a * b - 9 * a * a * b / 4, 0)

    def test_moved_cams(self):
        for cam in SOME:
            x, y = [number_of(told) for told in moments(cam)]
            share = number_of(area(cam))
            for place in PLACES:
                a, b = [number_of(told) for told in place]
                self.assert_moments(moved(cam, place), x + a * share, y + b * share)

    def test_turned_cams(self):
        for cam in SOME:
            x, y = [number_of(told) for told in moments(cam)]
            for turn in TURNS[:6]:
                c, s = number_of(turn[0]), number_of(turn[1])
                # A wave turned by the turn stands for a cam turned back.
                self.assert_moments(carried(cam, turn), x * c + y * s, y * c - x * s)


class Balance(unittest.TestCase):
    def test_balanced_cams(self):
        for cam in SOME + ROUND_ONES:
            if cam[0] == NIL:
                continue
            found = balanced(cam)
            self.assertEqual(balanced(cam=cam), found)
            self.assertTrue(is_wave(found))
            self.assertIs(is_balanced(found), True)
            self.assertEqual([middle(found), balanced(found)], [(NIL, NIL), found])
            self.assertEqual(moved(found, middle(cam)), cam)
            self.assertEqual(area(found), area(cam))

    def test_by_hand(self):
        rows = ((CRANK, ROUND_CAM), (ROUND_CAM, ROUND_CAM), (OVAL, OVAL), (EGG, EGG), (made(2, (BIG, 0)), made(2)),
                (made(1, (9, 9), ("1/4", 0)), OVAL))
        for cam, wanted in rows:
            self.assertEqual(balanced(cam), wanted)
        odd = made(1, (0, 0), ("1/8", 0), ("1/16", 0))
        self.assertEqual(balanced(odd), made(1, ("73/3936", 0), ("1/8", 0), ("1/16", 0)))
        self.assertEqual([is_balanced(cam) for cam in (EGG, OVAL, CRANK, odd)], [True, True, False, False])

    def test_only_just_out_of_balance(self):
        for cam in (made(1, ("1/1000000000000", 0)), made(1, (0, Fraction(1, BIG)), ("1/4", 0))):
            self.assertIs(is_balanced(cam), False)
            self.assertIs(is_balanced(balanced(cam)), True)

    def test_points(self):
        for cam in POINTS:
            self.assertIsNone(middle(cam))
            self.assertIs(is_balanced(cam), True)
            with self.assertRaises(IsPoint) as caught:
                balanced(cam)
            self.assertEqual(vars(caught.exception), {})

    def test_a_point_comes_last(self):
        for wave in (WIDE, raised(POINT, (-1, 10 ** 12)), made(0, (1, 0), (1, 0)), [NIL, ()], None):
            with self.assertRaises(InvalidCam) as caught:
                balanced(wave)
            self.assertIs(caught.exception.given, wave)


class Gaps(unittest.TestCase):
    def test_deficits(self):
        rows = ((OVAL, (3, 8)), (CRANK, NIL), (EGG, (4, 25)), (EDGE, (2, 3)), (SKEW_OVAL, (3, 8)), (POINT, NIL))
        for cam, wanted in rows:
            self.assertEqual([deficit(cam), deficit(cam=cam)], [wanted, wanted])
        for cam in SOME + POINTS + ROUND_ONES:
            way, whole = number_of(way_round(cam)), number_of(area(cam))
            pairs = numbers_of(cam)[1:]
            sums = 2 * sum((j * j - 1) * (p * p + q * q) for j, (p, q) in enumerate(pairs, 1))
            self.assertEqual(number_of(deficit(cam)), way * way - 4 * whole)
            self.assertEqual(number_of(deficit(cam)), sums)
            self.assertEqual(deficit(cam) == NIL, len(pairs) <= 1)
            self.assertGreaterEqual(deficit(cam)[0], 0)

    def test_mixed_gaps_by_hand(self):
        rows = ((OVAL, ROUND_CAM, (3, 32)), (OVAL, OVAL, NIL), (OVAL, EGG, (13, 100)), (POINT, OVAL, NIL),
                (POINT, AXLE, NIL), (ROUND_CAM, CRANK, NIL), (OVAL, SKEW_OVAL, (183, 1024)),
                (EGG, carried(EGG, WEST), (4, 25)))
        for cam, other, wanted in rows:
            self.assertEqual(mixed_gap(cam, other), wanted)
            self.assertEqual(mixed_gap(other=cam, cam=other), wanted)

    def test_when_they_are_nought(self):
        for cam in SOME:
            for place in PLACES:
                for size in (1, Fraction(1, BIG), 7):
                    alike = moved(times(cam, size), place)
                    self.assertEqual([mixed_gap(cam, alike), mixed_gap(alike, cam)], [NIL, NIL])
            for point in POINTS:
                self.assertEqual(mixed_gap(cam, point), NIL)

    def test_when_they_are_above(self):
        for at, cam in enumerate(SOME):
            other = SOME[at * 5 % len(SOME)]
            one, two = bent(cam), bent(other)
            # Alike but for size and axle: bends that are one times a number.
            same = times(one, number_of(two[0])) == times(two, number_of(one[0]))
            gap = number_of(mixed_gap(cam, other))
            self.assertEqual(gap, reckoned_area(cam, other) ** 2 - number_of(area(cam)) * number_of(area(other)))
            self.assertEqual(gap > 0, not same)
            self.assertGreaterEqual(gap, 0)
        for turn in (SLANT, NORTH):
            self.assertGreater(mixed_gap(OVAL, carried(OVAL, turn))[0], 0)
        self.assertEqual(mixed_gap(OVAL, carried(OVAL, WEST)), NIL)

    def test_eight_harmonics(self):
        full = raised(EIGHT, (10 ** 3, 1))
        for cam in (MANY_CAM, full, FINE_EDGE):
            self.assertGreater(deficit(cam)[0], 0)
            self.assertGreater(mixed_gap(cam, OVAL)[0], 0)
            self.assertEqual(mixed_gap(cam, carried(cam, EAST)), NIL)


if __name__ == "__main__":
    unittest.main()
