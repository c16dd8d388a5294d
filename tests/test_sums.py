"""Sums: boxes, weights, products, barring waves, ranges of weights and needless waves."""

import itertools
import unittest
from fractions import Fraction
from random import Random

from framecams.cams import is_cam
from framecams.errors import InvalidNumber, NotAdded
from framecams.sums import added, barring_wave, is_barring, needless_waves, product, weight_range, weights_for
from framecams.waves import is_wave
from tests.shapes import AXLE, BOW, CAMS, CRANK, EDGE, EIGHT, FAST, LONG, MANY_CAM, NOUGHT, SKEW_OVAL, SWING, TINY
from tests.shapes import TWICE, TWICE_BOW, any_waves, made, numbers_of, opposite, raised
from tests.test_nevers import summed
from tests.test_sizes import times
from tests.values import BIG, EGG, HALF, NIL, NOT_WAVES, NO_VALUES, ONE, OVAL, ROUND_CAM, TWO, is_reduced, number_of
from tests.values import pair_of

FLAT, THIN = made(2, (0, 0), ("1/4", 0)), made("1/2", (0, 0), ("1/4", 0))
UNITS = (ROUND_CAM, SWING, BOW, TWICE, TWICE_BOW, made(0, (0, 0), (0, 0), (1, 0)))
STEP = Fraction(1, 10 ** 30)


def flat_numbers(wave):
    """The numbers of the wave in one row of 17."""
    first, *pairs = numbers_of(wave)
    row = [first] + [number for pair in pairs for number in pair]
    return row + [Fraction(0)] * (17 - len(row))


def total_of(box, weights):
    """What the waves add up to, by Python's own fractions."""
    rows = [[number_of(weight) * number for number in flat_numbers(wave)] for wave, weight in zip(box, weights)]
    sums = [sum(column) for column in zip(*rows)]
    return made(sums[0], *zip(sums[1::2], sums[2::2]))


def reckoned_product(wave, other):
    return sum(one * two for one, two in zip(flat_numbers(wave), flat_numbers(other)))


def any_boxes():
    """Boxes of one to six waves with few harmonics, so that many depend on one another, each with waves."""
    waves = any_waves(61, 90, 1) + any_waves(62, 60, 2) + any_waves(63, 20, 8)
    for at in range(0, len(waves) - 8, 2):
        box = tuple(waves[at:at + 1 + at // 2 % 6])
        inner = total_of(box, [pair_of(Fraction((at + 3 * k) % 5, 1 + k)) for k in range(len(box))])
        yield box, (waves[at + 6], waves[at + 7], inner, summed(inner, times(box[0], Fraction(-1, 2))), NOUGHT)


class Weighed(unittest.TestCase):
    def assert_weights(self, box, wave):
        """Right weights and no barring wave, or none and a right one; whether it is added."""
        found, barring = weights_for(box, wave), barring_wave(box, wave)
        self.assertEqual([weights_for(wave=wave, box=box), barring_wave(wave=wave, box=box)], [found, barring])
        self.assertEqual([found is None, barring is None].count(True), 1)
        if found is None:
            self.assertTrue(is_wave(barring))
            self.assertLess(reckoned_product(barring, wave), 0)
            for part in box:
                self.assertGreaterEqual(reckoned_product(barring, part), 0)
            self.assertIs(is_barring(box, wave, barring), True)
            self.assertIs(is_barring(value=barring, wave=wave, box=box), True)
            return False
        self.assertEqual((type(found), len(found)), (tuple, len(box)))
        self.assertTrue(all(is_reduced(weight) and weight[0] >= 0 for weight in found))
        self.assertEqual(total_of(box, found), wave)
        self.assertEqual(added(box, found), wave)
        return True

    def assert_is_added(self, box, wave, wanted):
        self.assertIs(self.assert_weights(box, wave), wanted)


class Adding(unittest.TestCase):
    def test_added(self):
        for box, _ in any_boxes():
            for weights in ([NIL] * 6, [ONE] * 6, [pair_of(Fraction(k, BIG)) for k in range(6)],
                            [(2, 3), NIL, (BIG, 1), HALF, TINY, TWO]):
                told = tuple(weights[:len(box)])
                wave = added(box, told)
                self.assertEqual(wave, total_of(box, told))
                self.assertEqual(added(weights=told, box=box), wave)
                self.assertTrue(is_wave(wave))

    def test_by_hand(self):
        rows = (((ROUND_CAM, OVAL), (ONE, TWO), made(3, (0, 0), ("1/2", 0))), ((OVAL,), (NIL,), NOUGHT),
                ((OVAL, opposite(OVAL)), (ONE, ONE), NOUGHT), ((OVAL, opposite(OVAL)), (TWO, ONE), OVAL),
                ((OVAL, EGG), (HALF, HALF), made(1, (0, 0), ("1/8", 0), ("1/20", 0))), ((NOUGHT,), (TWO,), NOUGHT),
                ((FAST, made(1, (1, 0), *[(0, 0)] * 6, (-1, 0))), (ONE, ONE), CRANK[:1] + (((ONE, NIL),),)))
        for box, weights, wanted in rows:
            self.assertEqual(added(box, weights), wanted)

    def test_of_cams_a_cam(self):
        for at, cam in enumerate(CAMS):
            self.assertTrue(is_cam(added((cam, CAMS[-at], EDGE), (HALF, (at, 1), (1, 7)))))

    def test_products(self):
        waves = CAMS + (NOUGHT, SWING, FAST, EIGHT, LONG) + tuple(any_waves(64, 20, 8))
        for at, wave in enumerate(waves):
            for other in (waves[-at], waves[at * 7 % len(waves)], wave):
                found = product(wave, other)
                self.assertEqual(found, pair_of(reckoned_product(wave, other)))
                self.assertTrue(is_reduced(found))
                self.assertEqual([product(other, wave), product(other=wave, wave=other)], [found, found])

    def test_products_by_hand(self):
        rows = ((OVAL, OVAL, (17, 16)), (OVAL, EGG, ONE), (OVAL, NOUGHT, NIL), (SWING, BOW, NIL), (SWING, SWING, ONE),
                (FAST, ROUND_CAM, NIL), (made(2, (3, 4)), made(-1, (5, 6)), (37, 1)), (CRANK, SWING, HALF))
        for wave, other, wanted in rows:
            self.assertEqual(product(wave, other), wanted)


class Weights(Weighed):
    def test_boxes(self):
        found = [self.assert_weights(box, wave) for box, waves in any_boxes() for wave in waves]
        self.assertGreater(min(found.count(True), found.count(False)), 60)

    def test_what_was_added(self):
        for box, waves in any_boxes():
            self.assert_is_added(box, waves[2], True)

    def test_by_hand(self):
        rows = (((ROUND_CAM, OVAL), FLAT, True), ((ROUND_CAM, OVAL), THIN, False), ((OVAL,), OVAL, True),
                ((OVAL,), opposite(OVAL), False), ((OVAL,), times(OVAL, BIG), True), ((OVAL,), EGG, False),
                ((SWING, opposite(SWING)), opposite(SWING), True), ((SWING, opposite(SWING)), BOW, False),
                ((SWING, BOW, made(0, (-1, -1))), made(0, (-3, 2)), True),
                (UNITS, made(1, (2, 3), (4, 5), (6, 0)), True),
                (UNITS, made(1, (2, 3), (4, "-1/1000000000000"), (6, 0)), False),
                (UNITS, made(1, (2, 3), (4, 5), (6, TINY[0])), False), (UNITS, FAST, False),
                ((FAST, OVAL), OVAL, True), ((EIGHT, LONG, MANY_CAM), summed(EIGHT, LONG), True),
                ((EIGHT, LONG, MANY_CAM), raised(summed(EIGHT, LONG), (1, BIG)), False))
        for box, wave, wanted in rows:
            self.assert_is_added(box, wave, wanted)
        self.assertEqual(weights_for((ROUND_CAM, OVAL), FLAT), (ONE, ONE))

    def test_the_nought_wave(self):
        for box, _ in any_boxes():
            self.assert_is_added(box, NOUGHT, True)
        self.assert_is_added((NOUGHT,), NOUGHT, True)
        for wave in (OVAL, opposite(OVAL), FAST, made(-1)):
            self.assert_is_added((NOUGHT,), wave, False)
            self.assert_is_added((NOUGHT,) * 6, wave, False)
            self.assert_is_added((NOUGHT, wave, NOUGHT), wave, True)
            self.assert_is_added((NOUGHT, wave, NOUGHT), opposite(wave), False)

    def test_equal_waves(self):
        for many in range(1, 7):
            self.assert_is_added((OVAL,) * many, times(OVAL, 3), True)
            self.assert_is_added((OVAL,) * many, raised(OVAL, TINY), False)
            self.assert_is_added((OVAL,) * many, times(OVAL, -3), False)

    def test_weights_that_have_to_be_nought(self):
        # At the rim of what is added only some of the waves have a weight.
        box = (made(1, (1, 0)), made(1, (-1, 0)), made(1, (0, 1)), made(1, (0, -1)))
        self.assertEqual(weights_for(box, made(1, (1, 0))), (ONE, NIL, NIL, NIL))
        self.assertEqual(weights_for(box, made(2, (1, -1))), (ONE, NIL, NIL, ONE))
        for x, y in itertools.product(range(-4, 5), repeat=2):
            self.assert_is_added(box, made(3, (x, y)), abs(x) + abs(y) <= 3)
            self.assert_is_added(box, made(3, (x, y), (1, 0)), False)
            for step in (STEP, -STEP):
                self.assert_is_added(box, made(3 + step, (x, y)), abs(x) + abs(y) <= 3 + step)

    def test_against_all_corners(self):
        # What is added of waves is added of some that do not depend on one another: each few are solved for.
        for box, waves in any_boxes():
            for wave in waves[:2] + waves[3:4]:
                self.assert_is_added(box, wave, any_solution(box, wave))


def any_solution(box, wave):
    """Whether some few of the waves add up to the wave, each few by elimination."""
    return wave == NOUGHT or any(solves(few, wave) for many in range(1, len(box) + 1)
                                 for few in itertools.combinations(box, many))


def solves(few, wave):
    """Whether the waves do not depend on one another, and weights from 0 on add them up to the wave."""
    rows = [list(row) for row in zip(*[flat_numbers(told) for told in few + (wave,)])]
    for column in range(len(few)):
        leading = [row for row in rows[column:] if row[column] != 0]
        if not leading:
            return False
        rows.remove(leading[0])
        rows.insert(column, [number / leading[0][column] for number in leading[0]])
        for at, row in enumerate(rows):
            if at != column:
                rows[at] = [one - row[column] * two for one, two in zip(row, rows[column])]
    return all(row[-1] >= 0 for row in rows[:len(few)]) and all(row[-1] == 0 for row in rows[len(few):])


class Barring(unittest.TestCase):
    def assert_barring(self, box, wave, value, wanted):
        self.assertIs(is_barring(box, wave, value), wanted)
        self.assertIs(is_barring(value=value, wave=wave, box=box), wanted)

    def test_by_hand(self):
        box = (ROUND_CAM, OVAL)
        rows = ((made(1, (0, 0), (-4, 0)), True), (made(1, (0, 0), (-3, 0)), True), (made(1, (0, 0), (-2, 0)), False),
                (made(1, (0, 0), ("-2000000000001/1000000000000", 0)), True),
                (made(1, (0, 0), ("-4000000000001/1000000000000", 0)), False), (made(1, (0, 0), (-5, 0)), False),
                (made(0, (0, 0), (-1, 0)), False), (made(-1), False), (NOUGHT, False), (THIN, False), (SWING, False),
                (made(1, (9, -7), (-4, 5), (6, 6)), True), (made(BIG, (0, 0), (-4 * BIG, 0)), True))
        for value, wanted in rows:
            self.assert_barring(box, THIN, value, wanted)

    def test_any_value_whatever(self):
        for value in NOT_WAVES + NO_VALUES:
            self.assert_barring((ROUND_CAM, OVAL), THIN, value, False)
        self.assert_barring((ROUND_CAM, OVAL), THIN, [ONE, ((NIL, NIL), ((-4, 1), NIL))], False)
        self.assert_barring((ROUND_CAM, OVAL), THIN, (ONE, ((NIL, NIL), ((-4, 1), NIL), (NIL, NIL))), False)

    def test_never_where_there_are_weights(self):
        for box, waves in any_boxes():
            for value in waves + box + tuple(opposite(part) for part in box):
                self.assert_barring(box, waves[2], value, False)
                for wave in waves[:2]:
                    products = [reckoned_product(value, part) for part in box]
                    wanted = min(products) >= 0 > reckoned_product(value, wave)
                    self.assert_barring(box, wave, value, wanted)
                    if weights_for(box, wave) is not None:
                        self.assertFalse(wanted)


class Ranges(Weighed):
    def assert_range(self, box, wave, number):
        """No weight below the least one or above the greatest one does, both do."""
        least, greatest = found = weight_range(box, wave, number)
        self.assertEqual(weight_range(number=number, wave=wave, box=box), found)
        self.assertIs(type(found), tuple)
        others = box[:number] + box[number + 1:]
        self.assertTrue(is_reduced(least) and least[0] >= 0)
        self.assert_rest(box, wave, number, number_of(least), True)
        if least != NIL:
            self.assert_rest(box, wave, number, number_of(least) - STEP, False)
        if greatest is None:
            self.assert_is_added(others or (NOUGHT,), opposite(box[number]), True)
        else:
            self.assertTrue(is_reduced(greatest))
            self.assert_rest(box, wave, number, number_of(greatest), True)
            self.assert_rest(box, wave, number, number_of(greatest) + STEP, False)
        return found

    def assert_rest(self, box, wave, number, weight, wanted):
        """Whether the others make good what is left."""
        others = box[:number] + box[number + 1:]
        self.assert_is_added(others or (NOUGHT,), summed(wave, times(box[number], -weight)), wanted)

    def test_boxes(self):
        kinds = []
        for box, waves in any_boxes():
            for wave in waves[2:3] + waves[4:]:
                for number in range(len(box)):
                    least, greatest = self.assert_range(box, wave, number)
                    kinds.append("endless" if greatest is None else "one" if least == greatest else "more")
        self.assertGreater(min(kinds.count(kind) for kind in ("endless", "one", "more")), 10)

    def test_by_hand(self):
        three = (ROUND_CAM, OVAL, (TWO, ()))
        rows = ((three, FLAT, 0, (NIL, ONE)), (three, FLAT, 1, (ONE, ONE)), (three, FLAT, 2, (NIL, HALF)),
                ((OVAL,), OVAL, 0, (ONE, ONE)), ((OVAL,), NOUGHT, 0, (NIL, NIL)), ((NOUGHT,), NOUGHT, 0, (NIL, None)),
                ((OVAL, NOUGHT), OVAL, 1, (NIL, None)), ((OVAL, NOUGHT), OVAL, 0, (ONE, ONE)),
                ((OVAL, OVAL), OVAL, 0, (NIL, ONE)), ((OVAL, opposite(OVAL)), OVAL, 0, (ONE, None)),
                ((OVAL, opposite(OVAL)), OVAL, 1, (NIL, None)), ((OVAL, times(OVAL, -2)), OVAL, 1, (NIL, None)),
                ((OVAL, opposite(OVAL)), NOUGHT, 0, (NIL, None)), ((OVAL, opposite(OVAL), EGG), OVAL, 2, (NIL, NIL)),
                ((SWING, BOW, made(0, (-1, -1))), made(0, (-3, 2)), 0, (NIL, None)),
                ((SWING, BOW, made(0, (-1, -1))), made(0, (-3, 2)), 1, ((5, 1), None)),
                ((SWING, BOW, made(0, (-1, -1))), made(0, (-3, 2)), 2, ((3, 1), None)),
                ((OVAL, times(OVAL, Fraction(1, BIG))), OVAL, 1, (NIL, (BIG, 1))),
                ((OVAL,) * 6, times(OVAL, Fraction(7, 3)), 5, (NIL, (7, 3))),
                (UNITS, made(1, (2, 3)), 2, ((3, 1),) * 2))
        for box, wave, number, wanted in rows:
            self.assertEqual(self.assert_range(box, wave, number), wanted)

    def test_many_ways_to_add(self):
        # Few numbers for many waves, and weights of which some are 0: corners at which many waves meet.
        source, kinds = Random(65), []
        for _ in range(70):
            many = source.randint(4, 6)
            box = tuple(made(source.randint(0, 2), (source.randint(-2, 2), source.randint(-2, 2))) for _ in range(many))
            wave = total_of(box, [(source.choice((0, 0, 1, 1, 2)), 1) for _ in range(many)])
            for number in range(many):
                least, greatest = self.assert_range(box, wave, number)
                kinds.append("endless" if greatest is None else "one" if least == greatest else "more")
        self.assertGreater(min(kinds.count(kind) for kind in ("endless", "one", "more")), 15)

    def test_a_middle_range(self):
        # The weights of four corners of a square: two opposite ones go together.
        box = (made(1, (1, 0)), made(1, (-1, 0)), made(1, (0, 1)), made(1, (0, -1)))
        wave = made(4, (1, "1/2"))
        self.assertEqual([self.assert_range(box, wave, number) for number in range(4)],
                         [(ONE, (9, 4)), (NIL, (5, 4)), (HALF, (7, 4)), (NIL, (5, 4))])

    def test_not_added_comes_last(self):
        box = (ROUND_CAM, OVAL)
        for number in range(2):
            with self.assertRaises(NotAdded) as caught:
                weight_range(box, THIN, number)
            self.assertEqual(vars(caught.exception), {})
        for number in NO_VALUES + (-1, 2, 6, BIG):
            for wave in (THIN, FLAT):
                with self.assertRaises(InvalidNumber) as refused:
                    weight_range(box, wave, number)
                self.assertIs(refused.exception.given, number)


class Needless(unittest.TestCase):
    def test_by_hand(self):
        rows = (((ROUND_CAM, OVAL, (TWO, ())), (0, 2)), ((OVAL,), ()), ((NOUGHT,), ()), ((OVAL, OVAL), (0, 1)),
                ((OVAL, EGG), ()), ((NOUGHT, OVAL), (0,)), ((OVAL, NOUGHT), (1,)), ((NOUGHT, NOUGHT), (0, 1)),
                ((OVAL, opposite(OVAL)), ()), ((OVAL, opposite(OVAL), times(OVAL, 2)), (0, 2)),
                ((ROUND_CAM, OVAL, FLAT), (2,)), ((ROUND_CAM, OVAL, THIN), (1,)), (UNITS, ()),
                ((AXLE,) + UNITS[:5], (0,)), ((OVAL,) * 6, tuple(range(6))), ((EGG, OVAL, EGG, SKEW_OVAL), (0, 2)),
                ((SWING, BOW, made(0, (-1, -1))), ()), ((SWING, opposite(SWING), BOW, opposite(BOW)), ()),
                ((SWING, opposite(SWING), BOW, opposite(BOW), made(0, (3, 4))), (0, 2, 4)))
        for box, wanted in rows:
            self.assertEqual(needless_waves(box), wanted)
            self.assertEqual(needless_waves(box=box), wanted)

    def test_against_all_corners(self):
        for box, _ in any_boxes():
            wanted = [at for at, wave in enumerate(box) if any_solution(box[:at] + box[at + 1:], wave)]
            if len(box) == 1:
                wanted = []
            self.assertEqual(needless_waves(box), tuple(wanted))


if __name__ == "__main__":
    unittest.main()
