"""Waves: which values are some, their worth, and what is made from them."""

import cmath
import itertools
import unittest

from framecams.turns import back, joined, turn_of
from framecams.waves import bend, growth, harmonics_of, is_wave, mirrored, moved, plus, times, turned, worth
from tests.values import BIG, BLANK, EAST, EGG, FULL, GAPPED, HALF, LATER, LEAN, MANY_TURNS, NIL, NORTH, NOT_WAVES, ONE
from tests.values import OVAL, ROUND_CAM, SLANT, SOUTH, TURNS, TWO, WAVES, WEST
from tests.values import all_fractions, is_reduced, number_of, pair_of, reckoned

FRACTIONS = (NIL, ONE, (-1, 1), HALF, (-7, 3), (BIG, BIG - 1))
PLACES = (BLANK, (ONE, NIL), (NIL, (-2, 3)), ((1, 2), (-2, 3)), ((BIG, 2), (1, BIG)))
EIGHT = (NIL, tuple([BLANK] * 7 + [(NIL, ONE)]))


def opposite(wave):
    """The wave times -1, number by number."""
    return ((-wave[0][0], wave[0][1]), tuple(((-p[0], p[1]), (-q[0], q[1])) for p, q in wave[1]))


class WaveTest(unittest.TestCase):
    def assert_made(self, wave, worth_at):
        """The wave is one, and at more turns than settle it, it is worth what is told."""
        self.assertIs(is_wave(wave), True)
        self.assertTrue(all(is_reduced(fraction) for fraction in all_fractions(wave)))
        for turn in MANY_TURNS:
            self.assertEqual(reckoned(wave, turn), worth_at(turn))


class IsWave(unittest.TestCase):
    def test_waves(self):
        for wave in WAVES + (EIGHT, ((-3, 1), ()), (NIL, (BLANK, (NIL, (-1, BIG))))):
            self.assertIs(is_wave(wave), True)
            self.assertIs(is_wave(value=wave), True)

    def test_all_others(self):
        for at, value in enumerate(NOT_WAVES):
            self.assertIs(is_wave(value), False, at)

    def test_eight_harmonics_and_nine(self):
        for many in range(12):
            self.assertIs(is_wave((ONE, ((ONE, ONE),) * many)), many <= 8)
            self.assertIs(is_wave((ONE, (BLANK,) * many + ((NIL, ONE),))), many <= 7)

    def test_noughts_at_the_end(self):
        for many in range(9):
            self.assertIs(is_wave((ONE, (BLANK,) * many)), many == 0)
        self.assertIs(is_wave((ONE, (BLANK, (NIL, ONE)))), True)
        self.assertIs(is_wave((ONE, (BLANK, (ONE, NIL)))), True)


class Worth(WaveTest):
    def test_at_turns(self):
        for wave in WAVES:
            for turn in TURNS + tuple(MANY_TURNS):
                found = worth(wave, turn)
                self.assertEqual(found, pair_of(reckoned(wave, turn)))
                self.assertEqual(worth(turn=turn, wave=wave), found)

    def test_by_hand(self):
        rows = ((LEAN, EAST, HALF), (LEAN, NORTH, (5, 3)), (LEAN, WEST, (3, 2)), (LEAN, SOUTH, (1, 3)),
                (LEAN, SLANT, (37, 30)), (ROUND_CAM, SLANT, ONE), (EIGHT, SLANT, (354144, 390625)), (EIGHT, WEST, NIL))
        for wave, turn, wanted in rows:
            self.assertEqual(worth(wave, turn), wanted)

    def test_cosines_and_sines_of_floats(self):
        for wave, turn in itertools.product((LEAN, FULL, GAPPED, OVAL, EIGHT), MANY_TURNS):
            angle = cmath.phase(complex(turn[0][0] / turn[0][1], turn[1][0] / turn[1][1]))
            wanted = wave[0][0] / wave[0][1]
            for j, (p, q) in enumerate(wave[1], start=1):
                unit = cmath.rect(1, j * angle)
                wanted += p[0] / p[1] * unit.real + q[0] / q[1] * unit.imag
            self.assertAlmostEqual(float(number_of(worth(wave, turn))), wanted)


class Adding(WaveTest):
    def test_plus(self):
        for wave, other in itertools.product(WAVES + (EIGHT,), repeat=2):
            found = plus(wave, other)
            self.assert_made(found, lambda turn: reckoned(wave, turn) + reckoned(other, turn))
            self.assertEqual(plus(other=wave, wave=other), found)

    def test_plus_where_the_end_cancels_out(self):
        for wave in WAVES + (EIGHT,):
            self.assertEqual(plus(wave, opposite(wave)), (NIL, ()))
            for short in (ROUND_CAM, LEAN, OVAL):
                self.assertEqual(plus(plus(wave, short), opposite(wave)), short)

    def test_plus_by_hand(self):
        self.assertEqual(plus(OVAL, EGG), (TWO, (BLANK, ((1, 4), NIL), ((1, 10), NIL))))
        self.assertEqual(plus((ONE, (BLANK, (ONE, ONE))), (ONE, (BLANK, ((-1, 1), NIL)))), (TWO, (BLANK, (NIL, ONE))))
        self.assertEqual(plus((ONE, ((ONE, NIL), (ONE, ONE))), opposite((ONE, (BLANK, (ONE, ONE))))), (NIL, ((ONE, NIL),)))

    def test_times(self):
        for wave, fraction in itertools.product(WAVES + (EIGHT,), FRACTIONS):
            found = times(wave, fraction)
            self.assert_made(found, lambda turn: reckoned(wave, turn) * number_of(fraction))
            self.assertEqual(times(fraction=fraction, wave=wave), found)

    def test_times_by_hand(self):
        self.assertEqual(times(LEAN, (-6, 1)), ((-6, 1), (((3, 1), (-4, 1)),)))
        for wave in WAVES + (EIGHT,):
            self.assertEqual(times(wave, NIL), (NIL, ()))
            self.assertEqual(times(wave, ONE), wave)
            self.assertEqual(times(wave, (-1, 1)), opposite(wave))


class Turning(WaveTest):
    def test_turned(self):
        for wave, turn in itertools.product((ROUND_CAM, OVAL, LEAN, FULL, GAPPED, EIGHT), TURNS[:10]):
            found = turned(wave, turn)
            self.assert_made(found, lambda spot: reckoned(wave, joined(spot, turn)))
            self.assertEqual(turned(turn=turn, wave=wave), found)
            self.assertEqual(turned(found, back(turn)), wave)

    def test_turned_by_many_figures(self):
        self.assertEqual(worth(turned(GAPPED, LATER[3]), SLANT), worth(GAPPED, joined(SLANT, LATER[3])))

    def test_turned_by_hand(self):
        self.assertEqual(turned(LEAN, NORTH), (ONE, (((2, 3), HALF),)))
        self.assertEqual(turned(LEAN, WEST), (ONE, ((HALF, (-2, 3)),)))
        self.assertEqual(turned(LEAN, SLANT), (ONE, (((7, 30), (4, 5)),)))
        self.assertEqual(turned((NIL, ((SLANT),)), SLANT), (NIL, ((ONE, NIL),)))

    def test_mirrored(self):
        for wave in WAVES + (EIGHT,):
            found = mirrored(wave)
            self.assert_made(found, lambda turn: reckoned(wave, back(turn)))
            self.assertEqual(mirrored(wave=wave), found)
            self.assertEqual(mirrored(found), wave)
        self.assertEqual(mirrored(LEAN), (ONE, (((-1, 2), (-2, 3)),)))


class Moving(WaveTest):
    def test_moved(self):
        for wave, place in itertools.product(WAVES + (EIGHT,), PLACES):
            x, y = number_of(place[0]), number_of(place[1])
            found = moved(wave, place)
            self.assert_made(found, lambda turn: reckoned(wave, turn) + x * number_of(turn[0]) + y * number_of(turn[1]))
            self.assertEqual(moved(place=place, wave=wave), found)
            self.assertEqual(bend(found), bend(wave))

    def test_harmonic_1_comes_and_goes(self):
        self.assertEqual(moved(ROUND_CAM, BLANK), ROUND_CAM)
        self.assertEqual(moved(ROUND_CAM, (NIL, ONE)), (ONE, ((NIL, ONE),)))
        self.assertEqual(moved(LEAN, (HALF, (-2, 3))), ROUND_CAM)
        self.assertEqual(moved(LEAN, (HALF, NIL)), (ONE, ((NIL, (2, 3)),)))
        self.assertEqual(moved(OVAL, (HALF, ONE)), (ONE, ((HALF, ONE), ((1, 4), NIL))))
        self.assertEqual(moved(moved(OVAL, (HALF, ONE)), ((-1, 2), (-1, 1))), OVAL)


class Growing(WaveTest):
    def test_growth_by_hand(self):
        self.assertEqual(growth(ROUND_CAM), (NIL, ()))
        self.assertEqual(growth(LEAN), (NIL, (((2, 3), HALF),)))
        self.assertEqual(growth(EIGHT), (NIL, tuple([BLANK] * 7 + [((8, 1), NIL)])))
        self.assertEqual(growth(GAPPED), (NIL, ((NIL, (-1, 2)), BLANK, ((-9, 4), NIL), BLANK, BLANK, (TWO, (-12, 7)))))

    def test_growth_is_what_it_grows_by(self):
        step = turn_of((1, 10 ** 9))
        for wave, turn in itertools.product((ROUND_CAM, OVAL, LEAN, FULL, GAPPED, EIGHT), MANY_TURNS):
            ahead = reckoned(wave, joined(turn, step)) - reckoned(wave, joined(turn, back(step)))
            self.assertAlmostEqual(float(number_of(worth(growth(wave), turn))), float(ahead * 10 ** 9 / 4))

    def test_growth_and_bend(self):
        for wave in WAVES + (EIGHT,):
            grown, bent = growth(wave), bend(wave)
            self.assertEqual((growth(wave=wave), bend(wave=wave)), (grown, bent))
            for found in (grown, bent):
                self.assertIs(is_wave(found), True)
                self.assertTrue(all(is_reduced(fraction) for fraction in all_fractions(found)))
            self.assertEqual(grown[0], NIL)
            self.assertEqual(bent, plus(wave, growth(grown)))

    def test_bend_by_hand(self):
        self.assertEqual(bend(ROUND_CAM), ROUND_CAM)
        self.assertEqual(bend(LEAN), ROUND_CAM)
        self.assertEqual(bend((NIL, ((ONE, ONE),))), (NIL, ()))
        self.assertEqual(bend(OVAL), (ONE, (BLANK, ((-3, 4), NIL))))
        self.assertEqual(bend(EIGHT), (NIL, tuple([BLANK] * 7 + [(NIL, (-63, 1))])))
        bent = ((5, 2), (BLANK, BLANK, (NIL, (6, 1)), BLANK, BLANK, ((-10, 1), (-35, 3))))
        self.assertEqual(bend(GAPPED), bent)


class Harmonics(unittest.TestCase):
    def test_harmonics_of(self):
        rows = ((ROUND_CAM, ()), (LEAN, (1,)), (OVAL, (2,)), (EGG, (3,)), (GAPPED, (1, 3, 6)), (EIGHT, (8,)),
                (FULL, (1, 2, 3, 4, 5, 6, 7, 8)), ((NIL, ()), ()), ((NIL, ((NIL, ONE), BLANK, (ONE, NIL))), (1, 3)))
        for wave, wanted in rows:
            self.assertEqual(harmonics_of(wave), wanted)
            self.assertEqual(harmonics_of(wave=wave), wanted)
            self.assertIs(type(harmonics_of(wave)), tuple)


if __name__ == "__main__":
    unittest.main()
