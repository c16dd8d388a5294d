"""Cams: which values are some, undercut turns, grounds, touched points, where the axle lies, breadths."""

import unittest
from fractions import Fraction

from framecams.cams import axle_word, breadth_of, ground_near, is_cam, is_smooth, point_at, undercut_turn
from framecams.turns import is_turn, joined
from tests.shapes import AXLE, CAMS, CRANK, CUBE, EDGE, FINE_EDGE, FINEST, LONG, MANY_CAM, NOUGHT, NO_CAMS, POINT
from tests.shapes import SKEW_OVAL, SPECIAL, TINY, TOUCHING, WIDE, any_cams, any_waves, bent, grown, less, made
from tests.shapes import opposite, raised, unbent
from tests.sturm import Zeros
from tests.values import BIG, EAST, EGG, HALF, MANY_TURNS, NIL, NORTH, NOT_WAVES, ONE, OVAL, ROUND_CAM, TURNS, TWO, WEST
from tests.values import number_of, pair_of, reckoned

SOME = tuple(any_waves(3, 40)) + SPECIAL + CAMS + NO_CAMS


def word_of(zeros):
    """Where the axle lies, by the zeros of the lift."""
    if -1 in zeros.signs():
        return "outside"
    return "rim" if zeros.is_nought or zeros.order else "inside"


class IsCam(unittest.TestCase):
    def test_cams_and_others(self):
        for wave in CAMS + tuple(any_cams(4, 30)):
            self.assertIs(is_cam(wave), True)
            self.assertIs(is_cam(value=wave), True)
        for wave in NO_CAMS:
            self.assertIs(is_cam(wave), False)
            self.assertIs(is_smooth(wave), False)

    def test_against_the_chains(self):
        for wave in SOME:
            with self.subTest(wave=wave):
                zeros = Zeros(bent(wave))
                self.assertIs(is_cam(wave), -1 not in zeros.signs())
                self.assertIs(is_smooth(wave), zeros.signs() == (1,) and not zeros.order)

    def test_any_value_whatever(self):
        for at, value in enumerate(NOT_WAVES + CAMS):
            if at < len(NOT_WAVES):
                self.assertIs(is_cam(value), False, at)
                self.assertIs(is_smooth(value), False, at)
        self.assertEqual([is_cam(list(OVAL)), is_smooth(list(OVAL)), is_cam((1, ())), is_smooth((1, ()))], [False] * 4)

    def test_just_cams(self):
        for cam in (EDGE, FINE_EDGE, POINT, AXLE):
            self.assertEqual([is_cam(cam), is_smooth(cam), is_smooth(value=cam)], [True, False, False])
            for finer in (TINY, (1, 10 ** 90)):
                above, below = raised(cam, finer), raised(cam, less(finer))
                self.assertEqual([is_cam(above), is_smooth(above)], [True, True])
                self.assertEqual([is_cam(below), is_smooth(below)], [False, False])

    def test_harmonic_1_bends_nothing(self):
        for x, y in ((1, 0), (BIG, "-1/3")):
            self.assertEqual([is_cam(made(0, (x, y))), is_smooth(made(0, (x, y)))], [True, False])
            self.assertEqual([is_cam(made(1, (x, y))), is_smooth(made("1/9", (x, y)))], [True, True])
            self.assertEqual([is_cam(made("-1/9", (x, y))), is_cam(made(5, (x, y), (2, 0)))], [False, False])


class Undercut(unittest.TestCase):
    def test_turns(self):
        for wave in SOME:
            turn = undercut_turn(wave)
            self.assertEqual(undercut_turn(wave=wave), turn)
            if -1 in Zeros(bent(wave)).signs():
                self.assertTrue(is_turn(turn))
                self.assertLess(reckoned(bent(wave), turn), 0)
            else:
                self.assertIsNone(turn)

    def test_on_a_short_stretch_alone(self):
        for cam in (EDGE, FINE_EDGE):
            for finer in (TINY, (1, 10 ** 90)):
                wave = raised(cam, less(finer))
                self.assertLess(reckoned(bent(wave), undercut_turn(wave)), 0)
        self.assertIsNone(undercut_turn(FINE_EDGE))


class Ground(unittest.TestCase):
    def test_by_hand(self):
        rows = ((ROUND_CAM, 3, (-3, True)), (OVAL, 100, (-25, True)), (OVAL, 3, (-1, False)),
                (WIDE, FINEST, (FINEST // 2, True)), (EDGE, FINEST, (0, True)), (FINE_EDGE, FINEST, (0, True)),
                (POINT, 1, (0, True)), (NOUGHT, 7, (0, True)), (raised(FINE_EDGE, (-2, 7)), 7, (2, True)),
                (raised(FINE_EDGE, (-2, 7)), 1, (0, False)), (EGG, 10, (-2, True)),
                (raised(FINE_EDGE, (2, 7)), 1, (-1, False)), (made(0, (0, 0), ("1/3", "1/3")), 10, (14, False)),
                (raised(EDGE, less(TINY)), 10, (0, False)), (raised(EDGE, TINY), 10, (-1, False)))
        for wave, many, wanted in rows:
            self.assertEqual(ground_near(wave, many), wanted)
            self.assertEqual(ground_near(many=many, wave=wave), wanted)

    def test_what_it_is_put_round_by(self):
        for wave in SOME:
            for many in (1, 10, FINEST):
                n, is_just = ground_near(wave, many)
                here, above = raised(wave, pair_of(Fraction(n, many))), raised(wave, pair_of(Fraction(n + 1, many)))
                self.assertEqual([is_cam(here), is_cam(above)], [is_just, True])
                self.assertIs(is_smooth(here), False)
                self.assertIs(is_smooth(above), True)

    def test_many_figures(self):
        n, is_just = ground_near(LONG, FINEST)
        self.assertIs(is_just, False)
        self.assertEqual([is_cam(raised(LONG, pair_of(Fraction(n + k, FINEST)))) for k in (0, 1)], [False, True])


class Points(unittest.TestCase):
    def test_by_hand(self):
        rows = ((EGG, EAST, ((11, 10), NIL)), (EGG, WEST, ((-9, 10), NIL)), (OVAL, NORTH, (NIL, (3, 4))),
                (CRANK, WEST, ((-1, 2), NIL)), (POINT, NORTH, ((3, 1), (-1, 2))), (SKEW_OVAL, EAST, (ONE, HALF)),
                (SKEW_OVAL, NORTH, (HALF, ONE)), (AXLE, WEST, (NIL, NIL)))
        for cam, turn, wanted in rows:
            self.assertEqual(point_at(cam, turn), wanted)
            self.assertEqual(point_at(turn=turn, cam=cam), wanted)

    def test_they_lie_on_their_lines_and_beneath_all_others(self):
        for cam in CAMS:
            points = [[number_of(part) for part in point_at(cam, turn)] for turn in MANY_TURNS]
            for turn in MANY_TURNS:
                c, s = number_of(turn[0]), number_of(turn[1])
                lifts = [x * c + y * s for x, y in points]
                self.assertEqual(max(lifts), reckoned(cam, turn))
                self.assertEqual(lifts[MANY_TURNS.index(turn)], reckoned(cam, turn))

    def test_beside_the_line_through_the_axle(self):
        for cam in CAMS:
            for turn in TURNS:
                x, y = [number_of(part) for part in point_at(cam, turn)]
                c, s = number_of(turn[0]), number_of(turn[1])
                self.assertEqual([x * c + y * s, y * c - x * s], [reckoned(cam, turn), reckoned(grown(cam), turn)])

    def test_a_point_is_touched_there_at_all_turns(self):
        self.assertEqual({point_at(POINT, turn) for turn in TURNS}, {((3, 1), (-1, 2))})


class Axle(unittest.TestCase):
    def test_by_hand(self):
        rows = ((ROUND_CAM, "inside"), (OVAL, "inside"), (EGG, "inside"), (CRANK, "inside"), (AXLE, "rim"),
                (POINT, "outside"), (made(1, (1, 0)), "rim"), (made(1, (-1, 0)), "rim"), (made(1, (0, -1)), "rim"),
                (made(5, (3, 4)), "rim"), (made(5, (4, 4)), "outside"), (made(5, (4, "29/10")), "inside"),
                (made("3/2", (1, 1)), "inside"), (made("7/5", (1, 1)), "outside"))
        for cam, word in rows:
            self.assertEqual(axle_word(cam), word)
            self.assertEqual(axle_word(cam=cam), word)

    def test_rim_met_at_a_turn_without_fractions(self):
        self.assertEqual([axle_word(CUBE), axle_word(raised(CUBE, TINY)), axle_word(raised(CUBE, less(TINY)))],
                         ["rim", "inside", "outside"])

    def test_against_the_chains(self):
        for cam in CAMS + tuple(any_cams(5, 40)):
            self.assertEqual(axle_word(cam), word_of(Zeros(cam)))


class Breadth(unittest.TestCase):
    def test_by_hand(self):
        rows = ((OVAL, ((2, 1), ((NIL, NIL), (HALF, NIL)))), (EGG, (TWO, ())), (ROUND_CAM, (TWO, ())),
                (POINT, (NIL, ())), (SKEW_OVAL, made(2, (0, 0), (0, "1/2"))),
                (MANY_CAM, made(40, (0, 0), (1, "2/3"), (0, 0), ("2/5", 0), (0, 0), ("2/7", "-1/4"), (0, 0),
                                ("-1/5", "2/11"))))
        for cam, wanted in rows:
            self.assertEqual(breadth_of(cam), wanted)
            self.assertEqual(breadth_of(cam=cam), wanted)

    def test_opposite_lines_are_so_far_from_one_another(self):
        for cam in CAMS + tuple(any_cams(6, 10)):
            wave = breadth_of(cam)
            for turn in MANY_TURNS:
                self.assertEqual(reckoned(wave, turn), reckoned(cam, turn) + reckoned(cam, joined(turn, WEST)))
            self.assertNotIn(-1, Zeros(wave).signs())

    def test_of_edges(self):
        self.assertEqual(breadth_of(FINE_EDGE), made("11/9", (0, 0), ("4/9", 0), (0, 0), ("-1/15", 0)))
        self.assertEqual(unbent(TOUCHING), FINE_EDGE)
        self.assertEqual(breadth_of(opposite(opposite(EDGE))), made(2, (0, 0), ("2/3", 0)))


if __name__ == "__main__":
    unittest.main()
