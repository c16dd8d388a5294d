"""Alike waves: which turns carry one to another, what parts them, folds and axes."""

import cmath
import itertools
import unittest
from fractions import Fraction
from math import gcd, isclose

from framecams.alikes import are_alike, are_alike_moved, are_mirror_alike, carrying_turns, fold, has_axis, parting
from framecams.turns import in_order, joined, power, turn_of
from framecams.waves import harmonics_of, mirrored, moved
from tests.shapes import BOW, CRANK, EIGHT, FAST, FAST_BOW, LONG, MANY_CAM, NOUGHT, SKEW_OVAL, SPECIAL, SWING, TWICE
from tests.shapes import TWICE_BOW, any_waves, made, numbers_of, opposite, raised
from tests.test_nevers import carried
from tests.values import BIG, EAST, EGG, FULL, GAPPED, HALF, LEAN, NIL, NORTH, ONE, OVAL, ROUND_CAM, SLANT, SOUTH
from tests.values import TURNS, TWO, WEST, pair_of

QUARTERS = (EAST, NORTH, WEST, SOUTH)
SOME = SPECIAL + (FULL, GAPPED, LEAN, CRANK, MANY_CAM, LONG) + tuple(any_waves(41, 25, 8))


def complex_ones(wave):
    """The harmonics as complex numbers, not exact, by their numbers."""
    return {j: complex(p, -q) for j, (p, q) in enumerate(numbers_of(wave)[1:], 1) if p or q}


def roots(number, ratio):
    """All complex numbers of which this is the power."""
    length, angle = cmath.polar(ratio)
    return [cmath.rect(1, (angle + 2 * cmath.pi * k) / number) for k in range(number)]


def are_carried(one, two, harmonics):
    """Whether some turn carries these harmonics to the other ones: each root of the first one is tried."""
    ratios = {j: two[j] / one[j] for j in harmonics}
    first = harmonics[0]
    return any(all(cmath.isclose(z ** j, ratios[j], rel_tol=1e-9) for j in harmonics)
               for z in roots(first, ratios[first]))


def parted(wave, other):
    """What `parting` has to tell, by complex numbers."""
    if wave[0] != other[0]:
        return ("middle",)
    one, two = complex_ones(wave), complex_ones(other)
    for j in range(1, 9):
        if (j in one) != (j in two) or (j in one and not isclose(abs(one[j]), abs(two[j]), rel_tol=1e-12)):
            return ("harmonic", j)
    for pair in itertools.combinations(sorted(one), 2):
        if not are_carried(one, two, pair):
            return ("turn",) + pair
    return None


def turned_by(wave, *steps):
    """The wave with each harmonic, from 1 on, multiplied by another turn."""
    first, *pairs = numbers_of(wave)
    return made(first, *[numbers_of(carried(made(0, pair), step))[1] if pair != (0, 0) else pair
                         for pair, step in zip(pairs, steps)])


class Alike(unittest.TestCase):
    def assert_parting(self, wave, other, wanted):
        for one, two in ((wave, other), (other, wave)):
            self.assertEqual(parting(one, two), wanted)
            self.assertEqual(parting(other=two, wave=one), wanted)
            self.assertIs(are_alike(one, two), wanted is None)
            self.assertIs(are_alike(other=two, wave=one), wanted is None)
            self.assertIs(are_mirror_alike(mirrored(one), two), wanted is None)
            if wanted is not None:
                self.assertEqual(carrying_turns(one, two), ())

    def test_turned_waves(self):
        for wave in SOME:
            for turn in TURNS[:9]:
                self.assert_parting(wave, carried(wave, turn), None)

    def test_turns_without_fractions(self):
        # z z = i; z to the power 3 is the slanted turn, which is no third power of one with fractions.
        cube = turn_of((2, 1))
        rows = ((TWICE, TWICE_BOW), (FAST, FAST_BOW), (OVAL, SKEW_OVAL), (EGG, turned_by(EGG, EAST, EAST, SLANT)),
                (FAST, turned_by(FAST, *[EAST] * 7, SLANT)), (EGG, turned_by(EGG, EAST, EAST, cube)),
                (made(1, (0, 0), (1, 2), (0, 0), (0, 0), (0, 0), (3, "1/7")),
                 turned_by(made(1, (0, 0), (1, 2), (0, 0), (0, 0), (0, 0), (3, "1/7")), EAST, SLANT, EAST, EAST, EAST,
                           power(SLANT, 3))))
        for wave, other in rows:
            self.assert_parting(wave, other, None)
            self.assertEqual([carrying_turns(wave, other), carrying_turns(other, wave)], [(), ()])

    def test_unlike_middles(self):
        for wave in SOME:
            for more in (ONE, (-1, 10 ** 12), (1, BIG)):
                self.assert_parting(wave, raised(wave, more), ("middle",))
        self.assert_parting(OVAL, made(2, (1, 0)), ("middle",))
        self.assert_parting((NIL, ()), ROUND_CAM, ("middle",))

    def test_unlike_harmonics(self):
        rows = ((OVAL, EGG, 2), (OVAL, ROUND_CAM, 2), (EGG, ROUND_CAM, 3), (CRANK, ROUND_CAM, 1), (SWING, TWICE, 1),
                (FAST, NOUGHT, 8), (OVAL, made(1, (0, 0), ("1/4", 0), ("1/10", 0)), 3),
                (OVAL, made(1, (0, 0), ("1/4", "1/1000000000000")), 2), (OVAL, made(1, (0, 0), (0, "1/5")), 2),
                (made(1, (3, 4), (1, 0)), made(1, (0, 5), (2, 0)), 2), (made(1, (3, 4)), made(1, (4, 4)), 1),
                (made(1, (0, 0), (3, 4), (1, 1), (1, 0)), made(1, (0, 0), (5, 0), (0, 0), (0, 1)), 3),
                (made(1, (0, 0), (3, 4), (0, 0), (1, 0)), made(1, (0, 0), (5, 0), (1, 1), (1, 0)), 3),
                (made(1, (1, 1), (1, 0)), made(1, (1, "-1"), (0, 0), (0, 1)), 2))
        for wave, other, harmonic in rows:
            self.assert_parting(wave, other, ("harmonic", harmonic))

    def test_unlike_turns(self):
        skew = made(2, (0, 0), ("1/4", 0), (0, "1/10"))
        both = made(2, (0, 0), ("1/4", 0), ("1/10", 0))
        three = made(1, *[(0, 0)] * 2, (1, 0), (0, 0), (0, 0), (1, 0), (0, 0), (1, 0))
        many = made(0, *[(1, 0)] * 8)
        rows = ((both, skew, 2, 3), (both, carried(skew, SLANT), 2, 3),
                (made(0, (1, 0), (1, 0)), made(0, (1, 0), (0, 1)), 1, 2),
                (made(0, (1, 0), (0, 0), (1, 0)), made(0, (0, 1), (0, 0), (1, 0)), 1, 3),
                # z to the power 3 is 1, to the power 6 it is -1; with 8 alone it is let.
                (three, turned_by(three, EAST, EAST, EAST, EAST, EAST, WEST, EAST, EAST), 3, 6),
                (three, turned_by(three, EAST, EAST, SLANT, EAST, EAST, power(SLANT, 2), EAST, SLANT), 3, 8),
                (made(0, *[(0, 0)] * 3, (1, 0), (0, 0), (1, 0)), made(0, *[(0, 0)] * 3, (1, 0), (0, 0), (0, 1)), 4, 6),
                (many, turned_by(many, *[power(SLANT, j) for j in range(1, 8)], power(SLANT, 7)), 1, 8),
                (many, turned_by(many, EAST, EAST, EAST, NORTH, *[EAST] * 4), 1, 4),
                (many, turned_by(many, NORTH, *[EAST] * 7), 1, 2))
        for wave, other, i, j in rows:
            self.assert_parting(wave, other, ("turn", i, j))

    def test_pairs_that_share_a_divisor(self):
        # z to the power 4 and 6: some z has both exactly if the first one, cubed, is the second one, squared.
        wave = made(1, *[(0, 0)] * 3, (1, 2), (0, 0), ("3/2", 1))
        for one, two, wanted in ((EAST, WEST, None), (WEST, WEST, ("turn", 4, 6)), (WEST, EAST, ("turn", 4, 6)),
                                 (NORTH, EAST, ("turn", 4, 6)), (power(SLANT, 2), power(SLANT, 3), None),
                                 (power(SLANT, 2), joined(power(SLANT, 3), WEST), None),
                                 (power(SLANT, 4), power(SLANT, 5), ("turn", 4, 6))):
            other = turned_by(wave, EAST, EAST, EAST, one, EAST, two)
            self.assertEqual(parted(wave, other), wanted)
            self.assert_parting(wave, other, wanted)

    def test_against_complex_numbers(self):
        steps = (EAST, WEST, NORTH, SLANT, power(SLANT, 2), power(SLANT, 3))
        for at, wave in enumerate(any_waves(42, 60, 8)):
            for to in range(4):
                found = [steps[(at + to * j) % 6 if (at + j) % 3 else (to * j) % 3] for j in range(8)]
                other = turned_by(wave, *found)
                self.assert_parting(wave, other, parted(wave, other))

    def test_only_just_unlike(self):
        for turn in (turn_of((1, 10 ** 200)), turn_of((BIG, 1))):
            wave = made(1, (3, 4), (1, 2), (1, "1/2"))
            self.assert_parting(wave, turned_by(wave, EAST, turn, EAST), ("turn", 1, 2))
            self.assert_parting(wave, turned_by(wave, EAST, EAST, turn), ("turn", 1, 3))
            self.assert_parting(wave, turned_by(wave, turn, power(turn, 2), power(turn, 3)), None)


class Moved(unittest.TestCase):
    def assert_moved(self, wave, other, wanted):
        for one, two in ((wave, other), (other, wave)):
            self.assertIs(are_alike_moved(one, two), wanted)
            self.assertIs(are_alike_moved(other=two, wave=one), wanted)

    def test_moved_waves(self):
        for at, wave in enumerate(SOME):
            for place in ((HALF, NIL), (NIL, (-3, 7)), ((BIG, 7), (1, BIG))):
                self.assert_moved(wave, moved(carried(wave, TURNS[at % 9]), place), True)
                self.assert_moved(wave, moved(raised(wave, ONE), place), False)

    def test_harmonic_1_alone(self):
        rows = ((CRANK, ROUND_CAM, True), (SWING, NOUGHT, True), (SWING, BOW, True), (SWING, ROUND_CAM, False),
                (made(1, (2, 3)), CRANK, True), (made(1, (2, 3), (0, 1)), CRANK, False), (OVAL, SKEW_OVAL, True),
                (made(1, (5, 1), ("1/4", 0)), OVAL, True), (made(1, (5, 1), ("1/5", 0)), OVAL, False),
                (made(1, (1, 0), (1, 0)), made(1, (0, 1), (0, 1)), True))
        for wave, other, wanted in rows:
            self.assert_moved(wave, other, wanted)
        self.assertIs(are_alike(made(1, (1, 0), (1, 0)), made(1, (0, 1), (0, 1))), False)


class Mirrored(unittest.TestCase):
    def test_mirrored_and_turned(self):
        for at, wave in enumerate(SOME):
            other = carried(mirrored(wave), TURNS[at % 9])
            self.assertIs(are_mirror_alike(wave, other), True)
            self.assertIs(are_mirror_alike(other=wave, wave=other), True)
            self.assertIs(are_mirror_alike(wave, raised(other, ONE)), False)
            self.assertIs(has_axis(wave), parted(mirrored(wave), wave) is None)
            self.assertIs(has_axis(wave=other), parted(mirrored(wave), wave) is None)

    def test_axes(self):
        rows = ((OVAL, True), (EGG, True), (ROUND_CAM, True), (NOUGHT, True), (SKEW_OVAL, True), (LEAN, True),
                (made(2, (0, 0), ("1/4", 0), (0, "1/10")), True), (made(0, (1, 0), (1, 1)), False),
                (made(0, (1, 0), (0, 1)), False), (made(0, (1, 0), (0, 0), (0, 1)), False),
                (made(0, (1, 0), (2, 0), (0, 0), (-1, 0)), True), (FULL, False),
                (carried(made(0, *[(j, 0) for j in range(1, 9)]), SLANT), True),
                (carried(made(0, *[(j, 0) for j in range(1, 8)], (8, "1/1000000000000")), SLANT), False),
                # The axis is half of a quarter off: at turns without fractions.
                (made(0, *[(0, 0)] * 3, (0, 1), (0, 0), (0, 0), (0, 0), (1, 0)), True),
                (made(0, (0, 0), (1, 1), (0, 0), (1, 0)), False), (made(0, (0, 0), (1, 1), (0, 0), (0, 3)), True))
        for wave, wanted in rows:
            self.assertIs(has_axis(wave), wanted)
            self.assertIs(has_axis(wave=wave), wanted)
            self.assertIs(are_mirror_alike(wave, wave), wanted)
        self.assertIs(are_mirror_alike(FULL, FULL), False)
        self.assertIs(are_alike(FULL, mirrored(FULL)), False)


class Carrying(unittest.TestCase):
    def test_all_turns(self):
        for wave in (ROUND_CAM, NOUGHT, (TWO, ())):
            self.assertIsNone(carrying_turns(wave, wave))
            self.assertIsNone(carrying_turns(other=wave, wave=wave))
        self.assertEqual(carrying_turns(ROUND_CAM, NOUGHT), ())
        self.assertEqual(carrying_turns(ROUND_CAM, OVAL), ())

    def test_turned_waves(self):
        for wave in SOME:
            numbers = harmonics_of(wave)
            shared = gcd(*numbers)
            for turn in TURNS[:9] + (turn_of((1, 10 ** 30)),):
                found = carrying_turns(wave, carried(wave, turn))
                self.assertEqual(carrying_turns(other=carried(wave, turn), wave=wave), found)
                if not numbers:
                    self.assertIsNone(found)
                    continue
                # Of all the turns that are shared times a whole one, the quarters alone have fractions.
                steps = [step for at, step in enumerate(QUARTERS) if at * shared % 4 == 0]
                self.assertEqual(found, in_order(tuple(joined(turn, step) for step in steps)))
                for carrier in found:
                    self.assertEqual(carried(wave, carrier), carried(wave, turn))

    def test_by_hand(self):
        rows = ((OVAL, carried(OVAL, NORTH), (NORTH, SOUTH)), (OVAL, OVAL, (EAST, WEST)), (EGG, EGG, (EAST,)),
                (EGG, carried(EGG, NORTH), (NORTH,)), (FAST, FAST, QUARTERS), (FAST, opposite(FAST), ()),
                (EGG, turned_by(EGG, EAST, EAST, WEST), (WEST,)), (OVAL, SKEW_OVAL, ()), (SWING, BOW, (SOUTH,)),
                (BOW, SWING, (NORTH,)),
                (TWICE, opposite(TWICE), (NORTH, SOUTH)), (FAST, carried(FAST, SLANT),
                in_order(tuple(joined(SLANT, step) for step in QUARTERS))),
                (made(0, *[(0, 0)] * 3, (1, 1), (0, 0), (1, 0)), made(0, *[(0, 0)] * 3, (1, 1), (0, 0), (-1, 0)),
                 (NORTH, SOUTH)))
        for wave, other, wanted in rows:
            self.assertEqual(carrying_turns(wave, other), wanted)

    def test_one_harmonic_and_each_of_its_roots(self):
        for number in range(1, 9):
            wave = made(3, *[(0, 0)] * (number - 1), (2, "-1/3"))
            for turn in TURNS[:9]:
                other = turned_by(wave, *[EAST] * (number - 1), turn)
                found = carrying_turns(wave, other)
                for carrier in found:
                    self.assertEqual(power(carrier, number), turn)
                # Those that are told by fractions with small numbers are tried one by one.
                for half in {Fraction(n, m) for n in range(-9, 10) for m in range(1, 10)}:
                    step = turn_of(pair_of(half))
                    self.assertEqual(step in found, power(step, number) == turn)


class Folds(unittest.TestCase):
    def test_folds(self):
        rows = ((ROUND_CAM, 0), (NOUGHT, 0), (EGG, 3), (OVAL, 2), (SWING, 1), (FAST, 8), (FULL, 1), (EIGHT, 1),
                (made(1, (0, 0), (1, 0), (0, 0), (0, 1)), 2), (made(1, (0, 0), (1, 0), (0, 1)), 1),
                (made(1, (0, 0), (0, 0), (0, 0), (1, 0), (0, 0), (0, 1)), 2), (LEAN, 1),
                (made(1, *[(0, 0)] * 3, (1, 0), *[(0, 0)] * 3, (0, 1)), 4), (made(1, *[(0, 0)] * 6, (1, 0)), 7),
                (made(1, *[(0, 0)] * 2, (1, 0), *[(0, 0)] * 2, (0, 1)), 3),
                (made(1, *[(0, 0)] * 5, (1, 0), (0, 0), (0, 1)), 2))
        for wave, wanted in rows:
            self.assertEqual(fold(wave), wanted)
            self.assertEqual(fold(wave=wave), wanted)

    def test_as_many_turns_as_the_fold(self):
        for wave in SOME:
            found = carrying_turns(wave, wave)
            if fold(wave) == 0:
                self.assertIsNone(found)
            else:
                self.assertEqual(len(found), gcd(fold(wave), 4))
                self.assertIn(EAST, found)


if __name__ == "__main__":
    unittest.main()
