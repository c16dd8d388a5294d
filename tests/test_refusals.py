"""What each function refuses: the class of the error, what it keeps, and which comes first."""

import importlib
import itertools
import unittest

from framecams import certificates, errors, feet, frames, signs, sizes, speeds, sums, turns, waves
from tests.kinds import LET, OWN, kinds_of, right_ones
from tests.shapes import EDGE, NOUGHT, POINT, SWING, TINY, TWICE, less
from tests.test_frames import FACING, OPEN, SQUARE
from tests.test_interface import INTERFACE
from tests.values import BLANK, EAST, HALF, LEAN, NIL, NOT_FRACTIONS, NOT_TURNS, NO_VALUES, ONE, OVAL, ROUND_CAM, SLANT

# Those that tell of any value whatever; what in_order refuses is tested by itself.
FREE = ("is_turn", "is_wave", "is_cam", "is_smooth", "is_frame", "in_order", "accepts")


def refusing():
    """Each other function of the interface, with the kinds of its parameters."""
    for file, functions in INTERFACE.items():
        module = importlib.import_module(f"framecams.{file}")
        for name, parameters in functions.items():
            if name not in FREE:
                yield getattr(module, name), kinds_of(file, name, parameters)


class Refused(unittest.TestCase):
    def assert_refused(self, call, error, name, kept):
        """The call raises just this class of errors, which keeps this very value."""
        with self.assertRaises(errors.CamError) as caught:
            call()
        self.assertIs(type(caught.exception), error)
        self.assertEqual(list(vars(caught.exception)), [name] if name else [])
        if name:
            self.assertIs(getattr(caught.exception, name), kept)

    def assert_both_ways(self, function, named, error, kept=None, name="given"):
        """By position, and by name in both orders."""
        self.assert_refused(lambda: function(*named.values()), error, name, kept)
        self.assert_refused(lambda: function(**named), error, name, kept)
        self.assert_refused(lambda: function(**dict(reversed(list(named.items())))), error, name, kept)


class Refusals(Refused):
    def test_right_values_are_taken(self):
        for function, kinds in refusing():
            named = right_ones(kinds)
            self.assertEqual(function(**named), function(*named.values()))

    def test_bounds_are_let(self):
        for function, kinds in refusing():
            for name in [name for name in kinds if (function.__name__, name) not in OWN]:
                for value in LET.get(name, ()):
                    function(**{**right_ones(kinds), name: value})

    def test_one_wrong_argument(self):
        for function, kinds in refusing():
            for name, kind in kinds.items():
                for at, (wrong, kept) in enumerate(kind.wrong):
                    with self.subTest(function=function.__name__, name=name, at=at):
                        named = {**right_ones(kinds), name: wrong}
                        self.assert_both_ways(function, named, kind.error, kept, kind.kept)

    def test_the_first_of_several_wrong_ones_is_told(self):
        for function, kinds in refusing():
            for (first, kind), (second, other) in itertools.combinations(kinds.items(), 2):
                for (wrong, kept), (later, _) in itertools.product(kind.wrong[::7], other.wrong[::11]):
                    with self.subTest(function=function.__name__, first=first, second=second):
                        named = {**right_ones(kinds), first: wrong, second: later}
                        self.assert_both_ways(function, named, kind.error, kept, kind.kept)

    def test_where_all_are_wrong(self):
        for function, kinds in refusing():
            first = list(kinds.values())[0]
            for at in range(0, 40, 3):
                named = {name: kind.wrong[at % len(kind.wrong)][0] if kind.wrong else kind.right
                         for name, kind in kinds.items()}
                self.assert_both_ways(function, named, first.error, first.wrong[at % len(first.wrong)][1], first.kept)

    def test_none_is_a_half_in_turn_of_alone(self):
        self.assertEqual(turns.turn_of(None), ((-1, 1), NIL))
        self.assert_refused(lambda: waves.times(LEAN, None), errors.InvalidFraction, "given", None)


class Bounds(Refused):
    def test_of_power(self):
        for number in (-60, 60):
            self.assertEqual(turns.power(EAST, number), EAST)
        for number in (-61, 61, True, False):
            self.assert_both_ways(turns.power, {"turn": EAST, "number": number}, errors.InvalidNumber, number)

    def test_of_regular(self):
        for number in (1, 9):
            self.assert_both_ways(frames.regular, {"number": number, "distance": NIL}, errors.InvalidNumber, number)

    def test_high_below_low(self):
        for function in (feet.is_wide_enough, feet.missed_turn, certificates.certify_foot):
            for low, high in ((ONE, HALF), (TINY, NIL), (NIL, less(TINY)), ((-1, 2), (-2, 3)), ((2, 3), (1, 2)),
                              ((10 ** 399, 1), (10 ** 399 - 1, 1))):
                self.assert_both_ways(function, {"cam": OVAL, "low": low, "high": high}, errors.HighBelowLow, high)
                function(OVAL, high, low)
                function(OVAL, low, low)

    def test_high_below_low_comes_behind_all_others(self):
        wrong = (ONE,)
        for function in (feet.is_wide_enough, feet.missed_turn, certificates.certify_foot):
            self.assert_both_ways(function, {"cam": wrong, "low": ONE, "high": NIL}, errors.InvalidCam, wrong)
            for value in NOT_FRACTIONS[::5]:
                self.assert_both_ways(function, {"cam": OVAL, "low": value, "high": NIL}, errors.InvalidFraction, value)
                self.assert_both_ways(function, {"cam": OVAL, "low": ONE, "high": value}, errors.InvalidFraction, value)

    def test_any_value_beside_what_is_wrong(self):
        for value in NO_VALUES[::3]:
            wrong = [ONE]
            named = {"box": (SWING, OVAL), "wave": wrong, "value": value}
            self.assert_both_ways(sums.is_barring, named, errors.InvalidWave, wrong)
            self.assert_both_ways(sums.is_barring, {**named, "box": (SWING, value)}, errors.InvalidBox, 1, "index")

    def test_no_index_of_a_zero(self):
        for wave, many in ((NOUGHT, 0), (ROUND_CAM, 0), (OVAL, 0), (SWING, 2), (TWICE, 4)):
            for index in NO_VALUES + (-1, -many - 1, many, many + 1, 16):
                named = {"wave": wave, "index": index, "many": 0}
                self.assert_both_ways(signs.zero_near, named, errors.InvalidIndex, index)
            for index in range(many):
                self.assertEqual(len(signs.zero_near(wave, index, 1)), 3)
                self.assert_both_ways(signs.zero_near, {"wave": wave, "index": index, "many": 0}, errors.InvalidNumber,
                                      0)

    def test_knots_of_other_frames(self):
        for frame, knot in ((OPEN, (0, 3)), (FACING, (1, 0)), (FACING, (0, 1, 1)), (SQUARE, (0, 1)),
                            (SQUARE, (0, 1, 2)), (SQUARE, (2, 0))):
            self.assert_both_ways(frames.knot_number, {"frame": frame, "knot": knot}, errors.InvalidKnot, knot)
        self.assertEqual(frames.knot_number(FACING, (0, 1)), 2)


class Last(Refused):
    def test_behind_all_others(self):
        unpressed, gone = (ONE, ONE, (-2, 1)), (ONE, ONE, (-9, 1))
        rows = ((speeds.square_near, {"cam": OVAL, "spring": unpressed, "many": 3}, errors.NotPressed),
                (speeds.pressing_near, {"cam": EDGE, "spring": gone, "square": ONE, "many": 3}, errors.NotSmooth),
                (speeds.pressing_near, {"cam": OVAL, "spring": gone, "square": ONE, "many": 3}, errors.NotKept),
                (speeds.presses_at_most, {"cam": EDGE, "spring": gone, "square": ONE, "level": ONE}, errors.NotSmooth),
                (speeds.presses_at_most, {"cam": OVAL, "spring": gone, "square": ONE, "level": ONE}, errors.NotKept),
                (sizes.balanced, {"cam": POINT}, errors.IsPoint), (sizes.balanced, {"cam": NOUGHT}, errors.IsPoint),
                (sums.weight_range, {"box": (SWING, OVAL), "wave": TWICE, "number": 1}, errors.NotAdded))
        for function, named, error in rows:
            self.assert_both_ways(function, named, error, None, None)
            kinds = kinds_of(function.__module__.split(".")[1], function.__name__, ", ".join(named))
            for name, kind in kinds.items():
                for wrong, kept in kind.wrong[::4]:
                    self.assert_both_ways(function, {**named, name: wrong}, kind.error, kept, kind.kept)


class TurnsRefused(Refused):
    def assert_index(self, value, index):
        self.assert_both_ways(turns.in_order, {"turns": value}, errors.InvalidTurns, index, "index")

    def test_no_tuple(self):
        for value in NO_VALUES + (1, [EAST, SLANT], [], {EAST: 1}, iter((EAST,))):
            if not isinstance(value, tuple):
                self.assert_index(value, None)

    def test_first_wrong_element(self):
        for wrong in NOT_TURNS:
            self.assert_index((wrong,), 0)
            self.assert_index((EAST, SLANT, wrong, EAST), 2)
            self.assert_index((SLANT, wrong, wrong, EAST, None), 1)
        self.assert_index(EAST, 0)
        self.assert_index((EAST,) * 59 + (BLANK,), 59)


class NothingChanges(unittest.TestCase):
    def test_a_refused_list_is_left_alone(self):
        row = [SLANT, EAST]
        with self.assertRaises(errors.InvalidTurns):
            turns.in_order(row)
        self.assertEqual(row, [SLANT, EAST])

    def test_equal_calls_tell_equal_things(self):
        for _ in range(2):
            self.assertEqual(waves.plus(OVAL, LEAN), ((2, 1), (LEAN[1][0], OVAL[1][1])))
            self.assertEqual(turns.in_order((SLANT, EAST)), (EAST, SLANT))
            for function, kinds in refusing():
                self.assertEqual(function(**right_ones(kinds)), function(**right_ones(kinds)))


if __name__ == "__main__":
    unittest.main()
