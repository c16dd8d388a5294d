"""What each function refuses: the class of the error, what it keeps, and which comes first."""

import itertools
import unittest

from framecams import errors, turns, waves
from tests.values import BIG, BLANK, EAST, HALF, LEAN, NIL, NOT_FRACTIONS, NOT_PLACES, NOT_TURNS, NOT_WAVES, NO_VALUES
from tests.values import OVAL, SLANT

NOT_NUMBERS = NO_VALUES + (-61, 61, -62, BIG, -BIG, (1,), HALF)
TURN = (SLANT, NOT_TURNS, errors.InvalidTurn)
WAVE = (LEAN, NOT_WAVES, errors.InvalidWave)
FRACTION = (HALF, NOT_FRACTIONS, errors.InvalidFraction)

# Each function with its parameters in order: a right value, wrong ones, their error.
REFUSING = (
    (turns.turn_of, {"fraction": (HALF, [value for value in NOT_FRACTIONS if value is not None], errors.InvalidFraction)}),
    (turns.half_of, {"turn": TURN}),
    (turns.joined, {"turn": TURN, "other": TURN}),
    (turns.back, {"turn": TURN}),
    (turns.power, {"turn": TURN, "number": (3, NOT_NUMBERS, errors.InvalidNumber)}),
    (waves.worth, {"wave": WAVE, "turn": TURN}),
    (waves.plus, {"wave": WAVE, "other": WAVE}),
    (waves.times, {"wave": WAVE, "fraction": FRACTION}),
    (waves.turned, {"wave": WAVE, "turn": TURN}),
    (waves.mirrored, {"wave": WAVE}),
    (waves.moved, {"wave": WAVE, "place": ((HALF, NIL), NOT_PLACES, errors.InvalidPlace)}),
    (waves.growth, {"wave": WAVE}),
    (waves.bend, {"wave": WAVE}),
    (waves.harmonics_of, {"wave": WAVE}),
)


class Refusals(unittest.TestCase):
    def assert_refused(self, call, kind, given):
        """The call raises just this class of errors, which keeps this very value."""
        with self.assertRaises(errors.CamError) as caught:
            call()
        self.assertIs(type(caught.exception), kind)
        self.assertEqual(list(vars(caught.exception)), ["given"])
        self.assertIs(caught.exception.given, given)

    def assert_both_ways(self, function, named, kind, given):
        """By position, and by name in both orders."""
        self.assert_refused(lambda: function(*named.values()), kind, given)
        self.assert_refused(lambda: function(**named), kind, given)
        self.assert_refused(lambda: function(**dict(reversed(list(named.items())))), kind, given)

    def test_all_functions_of_the_modules_are_here(self):
        public = "turn_of half_of joined back power worth plus times turned mirrored moved growth bend harmonics_of"
        self.assertEqual([function.__name__ for function, _ in REFUSING], public.split())

    def test_right_values_are_taken(self):
        for function, told in REFUSING:
            named = {name: right for name, (right, _, _) in told.items()}
            self.assertEqual(function(**named), function(*named.values()))

    def test_one_wrong_argument(self):
        for function, told in REFUSING:
            for name, (_, wrong_ones, kind) in told.items():
                for at, wrong in enumerate(wrong_ones):
                    with self.subTest(function=function.__name__, name=name, at=at):
                        named = {key: right for key, (right, _, _) in told.items()}
                        named[name] = wrong
                        self.assert_both_ways(function, named, kind, wrong)

    def test_the_first_of_two_wrong_ones_is_told(self):
        for function, told in REFUSING:
            if len(told) == 2:
                (first, (_, first_wrong, kind)), (second, (_, second_wrong, _)) = told.items()
                for one, other in itertools.product(first_wrong[::3], second_wrong[::5]):
                    self.assert_both_ways(function, {first: one, second: other}, kind, one)

    def test_bounds_of_power(self):
        for number in (-60, 60):
            self.assertEqual(turns.power(EAST, number), EAST)
        for number in (-61, 61, True, False):
            self.assert_both_ways(turns.power, {"turn": EAST, "number": number}, errors.InvalidNumber, number)

    def test_none_is_a_half_in_turn_of_alone(self):
        self.assertEqual(turns.turn_of(None), ((-1, 1), NIL))
        self.assert_refused(lambda: waves.times(LEAN, None), errors.InvalidFraction, None)


class TurnsRefused(unittest.TestCase):
    def assert_index(self, value, index):
        for call in (lambda: turns.in_order(value), lambda: turns.in_order(turns=value)):
            with self.assertRaises(errors.CamError) as caught:
                call()
            self.assertIs(type(caught.exception), errors.InvalidTurns)
            self.assertEqual(vars(caught.exception), {"index": index})

    def test_no_tuple(self):
        for value in NO_VALUES + (1, [EAST, SLANT], [], {EAST: 1}, iter((EAST,))):
            if not isinstance(value, tuple):
                self.assert_index(value, None)

    def test_first_wrong_element(self):
        for wrong in NOT_TURNS:
            self.assert_index((wrong,), 0)
            self.assert_index((EAST, SLANT, wrong, EAST), 2)
            self.assert_index((SLANT, wrong, wrong, EAST, None), 1)
        self.assert_index(EAST, 0)
        self.assert_index((EAST,) * 59 + (BLANK,), 59)


class NothingChanges(unittest.TestCase):
    def test_a_refused_list_is_left_alone(self):
        row = [SLANT, EAST]
        with self.assertRaises(errors.InvalidTurns):
            turns.in_order(row)
        self.assertEqual(row, [SLANT, EAST])

    def test_equal_calls_tell_equal_things(self):
        for _ in range(2):
            self.assertEqual(waves.plus(OVAL, LEAN), ((2, 1), (LEAN[1][0], OVAL[1][1])))
            self.assertEqual(turns.in_order((SLANT, EAST)), (EAST, SLANT))


if __name__ == "__main__":
    unittest.main()
