"""Never above: cams within one another, what they have to spare, and two cams under one foot."""

import unittest
from fractions import Fraction
from math import isqrt

from framecams.nevers import carry_word, carrying_row, handed_over, lift_of_two, spare_near, turn_above, within_word
from framecams.turns import back, is_turn, joined
from tests.shapes import AT_EAST, AT_WEST, AXLE, CAMS, CORNER, CRANK, CUBE, EIGHT, FAST, FINEST, MIXED, POINT
from tests.shapes import SHORT, SHORTER, SKEW_OVAL, SLANTED, SPECIAL, SQUARED, SWING, THIRD, TINY, TOUCHING, TWICE
from tests.shapes import any_cams, any_waves, less, made, multiplied, numbers_of, opposite, raised
from tests.sturm import Zeros
from tests.values import EAST, EGG, MANY_TURNS, NIL, NORTH, ONE, OVAL, ROUND_CAM, SLANT, SOUTH, TURNS, TWO, WEST
from tests.values import circled, number_of, pair_of, reckoned

SOME = CAMS + tuple(any_cams(31, 10))
# Cams that take in any of the differences below without being undercut.
GROUNDS = (made(10 ** 6), made(10 ** 6, (1, 2), (3, "-1/2"), (0, "1/7")), made(10 ** 6, (0, 0), (0, 0), ("5/3", 1)))
DIFFERENCES = SPECIAL + tuple(any_waves(32, 12, 5))


def summed(wave, other):
    """Both waves added, number by number."""
    one, two = numbers_of(wave), numbers_of(other)
    many = max(len(one), len(two))
    one, two = [row + [(0, 0)] * (many - len(row)) for row in (one, two)]
    return made(one[0] + two[0], *[(a + c, b + d) for (a, b), (c, d) in zip(one[1:], two[1:])])


def carried(wave, turn):
    """The wave turned: cosine and sine of the sum of both angles."""
    first, *pairs = numbers_of(wave)
    ahead = [circled(turn, j) for j in range(1, len(pairs) + 1)]
    return made(first, *[(p * c + q * s, q * c - p * s) for (p, q), (c, s) in zip(pairs, ahead)])


def with_difference(wave, ground, turn):
    """Two cams, the second one turned by the turn, of which the lifts differ by the wave."""
    return summed(ground, wave), carried(ground, back(turn)), turn


def hard_pairs():
    """Pairs of cams with a turn, each with its difference."""
    for at, wave in enumerate(DIFFERENCES):
        yield with_difference(wave, GROUNDS[at % 3], TURNS[at % 9]), wave
    for at, cam in enumerate(SOME):
        other, turn = SOME[-at], TURNS[at % 9]
        yield (cam, other, turn), summed(cam, opposite(carried(other, turn)))


class Nevers(unittest.TestCase):
    def assert_pair(self, told, wave):
        """All that is told of two cams with this difference."""
        cam, other, turn = told
        named = {"turn": turn, "other": other, "cam": cam}
        zeros = Zeros(wave)
        row = zeros.signs()
        crossings = sum(one != two for one, two in zip(row, row[1:] + row[:1]))
        has_zeros = zeros.is_nought or len(zeros.order) > 0
        word = "out" if 1 in row else ("touches" if has_zeros else "free")
        carrying = "both" if row == (0,) else "in turns" if len(set(row)) == 2 else {1: "first", -1: "other"}[row[0]]
        for function, wanted in ((carrying_row, row), (handed_over, crossings), (within_word, word),
                                 (carry_word, carrying)):
            self.assertEqual(function(*told), wanted)
            self.assertEqual(function(**named), wanted)
        self.assertIs(type(handed_over(*told)), int)
        self.assertEqual(crossings % 2, 0)
        self.assert_above(told, 1 in row)

    def assert_above(self, told, is_out):
        cam, other, turn = told
        spot = turn_above(cam, other, turn)
        self.assertEqual(turn_above(turn=turn, other=other, cam=cam), spot)
        if is_out:
            self.assertTrue(is_turn(spot))
            self.assertGreater(reckoned(cam, spot), reckoned(other, joined(spot, turn)))
        else:
            self.assertIsNone(spot)

    def test_against_the_chains(self):
        for told, wave in hard_pairs():
            self.assert_pair(told, wave)

    def test_words_by_hand(self):
        rows = ((OVAL, ROUND_CAM, EAST, "out", "in turns"), (ROUND_CAM, OVAL, SLANT, "out", "in turns"),
                (OVAL, (TWO, ()), SLANT, "free", "other"), ((TWO, ()), OVAL, SLANT, "out", "first"),
                (OVAL, OVAL, EAST, "touches", "both"), (OVAL, OVAL, WEST, "touches", "both"),
                (OVAL, OVAL, SOUTH, "out", "in turns"), (EGG, EGG, WEST, "out", "in turns"),
                (ROUND_CAM, ROUND_CAM, SLANT, "touches", "both"), (AXLE, AXLE, SLANT, "touches", "both"),
                (AXLE, ROUND_CAM, SLANT, "free", "other"), (POINT, ROUND_CAM, EAST, "out", "in turns"),
                (POINT, (made("37/4")[0], ()), EAST, "free", "other"), (CRANK, made("3/2"), SLANT, "touches", "other"),
                (made("1/2"), CRANK, SLANT, "touches", "other"), (CRANK, ROUND_CAM, EAST, "out", "in turns"))
        for cam, other, turn, word, carrying in rows:
            self.assertEqual(within_word(cam, other, turn), word)
            self.assertEqual(carry_word(cam, other, turn), carrying)

    def test_only_just(self):
        # Touched at turns with fractions: the oval within 5 / 4. Without: the skew one, and the third.
        fourth, third = made("5/4"), summed(GROUNDS[0], TOUCHING)
        for cam, other in ((OVAL, fourth), (SKEW_OVAL, fourth), (GROUNDS[0], third), (made("3/4"), SKEW_OVAL)):
            for turn in (EAST, NORTH):
                turned_one = carried(other, back(turn))
                for step in (TINY, (1, 10 ** 300)):
                    told = [within_word(cam, raised(turned_one, more), turn) for more in (NIL, step, less(step))]
                    self.assertEqual(told, ["touches", "free", "out"])
                    told = [carry_word(cam, raised(turned_one, more), turn) for more in (NIL, step, less(step))]
                    self.assertEqual(told, ["other", "other", "in turns"])

    def test_the_same_at_all_turns(self):
        for cam in SOME:
            for turn in TURNS[:6]:
                told = (cam, carried(cam, back(turn)), turn)
                self.assertEqual([within_word(*told), carry_word(*told), carrying_row(*told), handed_over(*told),
                                  spare_near(*told, 7), turn_above(*told)],
                                 ["touches", "both", (0,), 0, (0, True), None])

    def test_out_on_a_short_stretch_alone(self):
        for wave in (SHORT, SHORTER, raised(opposite(CUBE), TINY), raised(opposite(SQUARED), (1, 10 ** 40))):
            told = with_difference(wave, GROUNDS[1], SLANT)
            self.assertEqual([within_word(*told), carry_word(*told)], ["out", "in turns"])
            self.assert_above(told, True)

    def test_zeros_without_a_change_of_sign(self):
        rows = ((AT_EAST, (1,), 0), (opposite(AT_EAST), (-1,), 0), (TOUCHING, (1,) * 4, 0),
                (opposite(TOUCHING), (-1,) * 4, 0), (CUBE, (1,), 0), (multiplied(AT_EAST, SWING), (1, -1, 1), 2),
                (multiplied(AT_WEST, SLANTED), (1, -1, -1), 2), (CORNER, (-1, 1), 2), (THIRD, (-1, 1, -1, 1), 4),
                (SWING, (-1, 1), 2), (TWICE, (-1, 1) * 2, 4), (FAST, (-1, 1) * 8, 16),
                (multiplied(multiplied(SWING, SWING), SWING), (-1, 1), 2))
        for wave, row, many in rows:
            for ground in GROUNDS:
                for turn in (EAST, SLANT):
                    told = with_difference(wave, ground, turn)
                    self.assertEqual([carrying_row(*told), handed_over(*told)], [row, many])

    def test_no_zeros(self):
        for more, row, carrying in ((ONE, (1,), "first"), ((-1, 1), (-1,), "other")):
            told = with_difference((more, ()), GROUNDS[1], SLANT)
            self.assertEqual([carrying_row(*told), handed_over(*told), carry_word(*told)], [row, 0, carrying])


class Spare(unittest.TestCase):
    def assert_spare(self, told, many, wanted):
        cam, other, turn = told
        self.assertEqual(spare_near(cam, other, turn, many), wanted)
        self.assertEqual(spare_near(many=many, turn=turn, other=other, cam=cam), wanted)

    def test_by_hand(self):
        rows = (((OVAL, (TWO, ()), SLANT), 100, (75, True)), ((OVAL, OVAL, NORTH), 10, (-5, True)),
                ((OVAL, OVAL, NORTH), 1, (-1, False)), ((OVAL, OVAL, NORTH), FINEST, (-FINEST // 2, True)),
                ((OVAL, (TWO, ()), EAST), 1, (0, False)), ((OVAL, made(9), EAST), 1, (7, False)),
                ((OVAL, ROUND_CAM, EAST), 3, (-1, False)), ((OVAL, ROUND_CAM, EAST), FINEST, (-FINEST // 4, True)),
                ((ROUND_CAM, OVAL, SLANT), 4, (-1, True)), ((EGG, EGG, WEST), 10, (-2, True)),
                ((AXLE, ROUND_CAM, EAST), FINEST, (FINEST, True)), ((AXLE, AXLE, WEST), 1, (0, True)),
                ((OVAL, made("5/4"), WEST), FINEST, (0, True)),
                ((OVAL, made(Fraction(5, 4) + Fraction(1, FINEST)), WEST), FINEST, (1, True)),
                ((OVAL, made(Fraction(5, 4) + Fraction(1, FINEST)), WEST), FINEST - 1, (0, False)),
                ((OVAL, made(Fraction(5, 4) - Fraction(1, 10 ** 300)), WEST), FINEST, (-1, False)))
        for told, many, wanted in rows:
            self.assert_spare(told, many, wanted)

    def test_least_without_fractions(self):
        # 5 less cos t less sin t is least 5 less the root of 2.
        cam, other = made(1, (1, 1)), made(6)
        for many in (1, 10, FINEST):
            self.assert_spare((cam, other, SLANT), many, (5 * many - isqrt(2 * many * many) - 1, False))
            self.assert_spare((cam, ROUND_CAM, SLANT), many, (-isqrt(2 * many * many) - 1, False))

    def test_what_can_be_put_round(self):
        for told, wave in list(hard_pairs())[::2]:
            cam, other, turn = told
            for many in (12, FINEST):
                n, is_just = spare_near(*told, many)
                room = raised(opposite(wave), pair_of(Fraction(-n, many)))
                zeros = Zeros(room)
                self.assertNotIn(-1, zeros.signs())
                self.assertIn(-1, Zeros(raised(room, (-1, many))).signs())
                self.assertIs(is_just, zeros.is_nought or len(zeros.order) > 0)
                self.assertEqual(n >= 0, within_word(*told) != "out")
            if n >= 0:
                self.assertEqual(within_word(raised(cam, pair_of(Fraction(n, FINEST))), other, turn),
                                 "touches" if is_just else "free")

    def test_eight_harmonics(self):
        told = with_difference(opposite(EIGHT), GROUNDS[1], SLANT)
        for many in (1, 7, FINEST):
            n, _ = spare_near(*told, many)
            rooms = [many * reckoned(EIGHT, spot) for spot in MANY_TURNS]
            self.assertLessEqual(n, min(rooms))
        told = with_difference(MIXED, GROUNDS[2], NORTH)
        self.assertEqual([within_word(*told), carry_word(*told)], ["out", "in turns"])


class Lifts(unittest.TestCase):
    def test_the_greater_one(self):
        for at, cam in enumerate(SOME):
            other = SOME[-at]
            for turn in TURNS[:5]:
                for spot in MANY_TURNS[::4] + [EAST, WEST]:
                    lift = lift_of_two(cam, other, turn, spot)
                    self.assertEqual(lift_of_two(spot=spot, turn=turn, other=other, cam=cam), lift)
                    both = (reckoned(cam, spot), reckoned(other, joined(spot, turn)))
                    self.assertEqual(lift, pair_of(max(both)))

    def test_by_hand(self):
        rows = ((OVAL, OVAL, NORTH, SLANT, (107, 100)), (OVAL, OVAL, NORTH, EAST, (5, 4)),
                (OVAL, OVAL, NORTH, SOUTH, (5, 4)), (OVAL, OVAL, WEST, NORTH, (3, 4)),
                (OVAL, ROUND_CAM, SLANT, NORTH, ONE), (ROUND_CAM, OVAL, EAST, EAST, (5, 4)),
                (CRANK, OVAL, NORTH, EAST, (3, 2)), (CRANK, OVAL, NORTH, WEST, (3, 4)), (AXLE, AXLE, WEST, SLANT, NIL),
                (POINT, POINT, EAST, WEST, (-3, 1)), (POINT, AXLE, EAST, WEST, NIL))
        for cam, other, turn, spot, wanted in rows:
            self.assertEqual(lift_of_two(cam, other, turn, spot), wanted)

    def test_it_follows_the_row(self):
        for told, wave in hard_pairs():
            for spot in MANY_TURNS[::5]:
                lift = number_of(lift_of_two(*told, spot))
                cam, other, turn = told
                self.assertEqual(lift == reckoned(cam, spot), reckoned(wave, spot) >= 0)
                self.assertEqual(lift == reckoned(other, joined(spot, turn)), reckoned(wave, spot) <= 0)


if __name__ == "__main__":
    unittest.main()
