"""Turns: which values are some, half tangents, joining, powers, order."""

import itertools
import math
import unittest

from framecams.turns import back, half_of, in_order, is_turn, joined, power, turn_of
from tests.values import BIG, BIG_HALF, EAST, HALF, MANY_TURNS, NIL, NORTH, NOT_TURNS, ONE, SLANT, SOUTH
from tests.values import TURNS, TWO, WEST, circled, is_reduced, number_of, pair_of

HALVES = (NIL, ONE, (-1, 1), HALF, TWO, (-3, 7), (22, 7), (1, BIG), (-BIG, 1), (BIG, BIG + 1), BIG_HALF)


class IsTurn(unittest.TestCase):
    def test_turns(self):
        for turn in list(TURNS) + MANY_TURNS:
            self.assertIs(is_turn(turn), True)
            self.assertIs(is_turn(value=turn), True)

    def test_all_others(self):
        for at, value in enumerate(NOT_TURNS):
            self.assertIs(is_turn(value), False, at)

    def test_fractions_on_a_grid(self):
        fractions = [(n, m) for m in range(1, 18) for n in range(-m - 1, m + 2) if math.gcd(n, m) == 1]
        found = [pair for pair in itertools.product(fractions, repeat=2) if is_turn(pair)]
        wanted = [(c, s) for c, s in itertools.product(fractions, repeat=2)
                  if number_of(c) ** 2 + number_of(s) ** 2 == 1]
        self.assertEqual(found, wanted)
        self.assertEqual(len(found), 4 + 8 * 3)


class Halves(unittest.TestCase):
    def test_by_hand(self):
        rows = ((NIL, EAST), (ONE, NORTH), ((-1, 1), SOUTH), (None, WEST), (HALF, SLANT), (TWO, ((-3, 5), (4, 5))),
                ((-1, 2), ((3, 5), (-4, 5))), ((1, 3), ((4, 5), (3, 5))), ((-3, 1), ((-4, 5), (-3, 5))))
        for half, turn in rows:
            self.assertEqual(turn_of(half), turn)
            self.assertEqual(turn_of(fraction=half), turn)
            self.assertEqual(half_of(turn), half)
            self.assertEqual(half_of(turn=turn), half)

    def test_both_ways(self):
        for half in HALVES:
            turn = turn_of(half)
            self.assertIs(is_turn(turn), True)
            self.assertEqual(half_of(turn), half)
            u = number_of(half)
            self.assertEqual(turn, (pair_of((1 - u * u) / (1 + u * u)), pair_of(2 * u / (1 + u * u))))
        for turn in TURNS:
            self.assertEqual(turn_of(half_of(turn)), turn)
            if turn != WEST:
                self.assertTrue(is_reduced(half_of(turn)))


class Joining(unittest.TestCase):
    def test_joined(self):
        for turn, other in itertools.product(TURNS, repeat=2):
            (c, s), (d, e) = circled(turn, 1), circled(other, 1)
            wanted = (pair_of(c * d - s * e), pair_of(c * e + s * d))
            self.assertEqual(joined(turn, other), wanted)
            self.assertEqual(joined(other=other, turn=turn), wanted)
            self.assertIs(is_turn(wanted), True)

    def test_joined_by_hand(self):
        self.assertEqual(joined(NORTH, SLANT), ((-4, 5), (3, 5)))
        self.assertEqual(joined(SLANT, ((5, 13), (12, 13))), ((-33, 65), (56, 65)))
        self.assertEqual(joined(WEST, WEST), EAST)

    def test_back(self):
        for turn in TURNS:
            c, s = circled(turn, 1)
            self.assertEqual(back(turn), (pair_of(c), pair_of(-s)))
            self.assertEqual(back(turn=turn), back(turn))
            self.assertEqual(joined(turn, back(turn)), EAST)
        self.assertEqual([back(EAST), back(NORTH), back(WEST)], [EAST, SOUTH, WEST])

    def test_power(self):
        for turn in TURNS[:9]:
            for number in range(-60, 61):
                wanted = tuple(pair_of(part) for part in circled(turn, number))
                self.assertEqual(power(turn, number), wanted)
                self.assertEqual(power(number=number, turn=turn), wanted)

    def test_power_of_many_figures(self):
        turn = turn_of(BIG_HALF)
        for number in (-60, -2, -1, 0, 1, 3, 59, 60):
            self.assertEqual(power(turn, number), tuple(pair_of(part) for part in circled(turn, number)))

    def test_power_by_hand(self):
        self.assertEqual([power(SLANT, 0), power(SLANT, 1), power(SLANT, 2)], [EAST, SLANT, ((-7, 25), (24, 25))])
        self.assertEqual([power(NORTH, -60), power(NORTH, 59), power(WEST, -59)], [EAST, SOUTH, WEST])


class Order(unittest.TestCase):
    def test_begins_of_quarters(self):
        begins = (EAST, NORTH, WEST, SOUTH)
        for row in itertools.permutations(begins):
            self.assertEqual(in_order(row), begins)

    def test_between_the_begins(self):
        wanted = []
        for begin in (EAST, NORTH, WEST, SOUTH):
            wanted += [joined(begin, turn_of(half)) for half in (NIL, (1, BIG), (1, 3), HALF, (BIG, BIG + 1))]
        wanted = tuple(wanted)
        for step in (1, 3, 7, 9, 11, 13, 17, 19):
            row = tuple(wanted[k * step % 20] for k in range(20))
            self.assertEqual(in_order(row), wanted)
            self.assertEqual(in_order(turns=row), wanted)

    def test_as_the_angles_go(self):
        wanted = sorted(MANY_TURNS, key=lambda turn: math.atan2(turn[1][0] / turn[1][1], turn[0][0] / turn[0][1]) % math.tau)
        self.assertEqual(in_order(tuple(MANY_TURNS)), tuple(wanted))
        self.assertEqual(in_order(tuple(MANY_TURNS[::-1])), tuple(wanted))

    def test_equal_ones_are_kept(self):
        row = (SOUTH, SLANT, EAST, SOUTH, EAST, SLANT, EAST)
        self.assertEqual(in_order(row), (EAST, EAST, EAST, SLANT, SLANT, SOUTH, SOUTH))

    def test_one_and_none(self):
        self.assertEqual(in_order(()), ())
        for turn in TURNS:
            self.assertEqual(in_order((turn,)), (turn,))

    def test_sixty_of_many_figures(self):
        row = tuple(turn_of((BIG + k, BIG)) for k in range(-30, 31) if math.gcd(k, BIG) == 1)
        self.assertEqual(in_order(row), row)
        self.assertEqual(in_order(row[::-1]), row)


if __name__ == "__main__":
    unittest.main()
