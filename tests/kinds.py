"""What each parameter takes and refuses, by its name: a right value, wrong ones with what the error keeps, the error."""

from framecams import errors
from tests.shapes import FINEST, NO_CAMS, SWING, TINY, less
from tests.test_frames import CORNER, NOT_FRAMES
from tests.values import BIG, EAST, HALF, Hostile, NIL, NOT_FRACTIONS, NOT_PLACES, NOT_TURNS, NOT_WAVES, NO_VALUES, ONE
from tests.values import OVAL, SLANT, TWO, nested


class Kind:
    """A right value, the pairs of a wrong one and what the error keeps, and the class of the error."""

    def __init__(self, right, wrong, error):
        self.right = right
        self.wrong = wrong
        self.error = error
        self.kept = "index" if error in (errors.InvalidFrames, errors.InvalidHarmonics) else "given"


def given(right, wrong, error):
    """A kind of which the error keeps the very value."""
    return Kind(right, [(value, value) for value in wrong], error)


def whole(least, most, right, error=errors.InvalidNumber):
    """Whole numbers within the bounds."""
    return given(right, NO_VALUES + (least - 1, most + 1, -BIG, BIG, (1,), HALF), error)


NOT_ABOVE = NOT_FRACTIONS + (NIL, (-1, 1), less(TINY), (-BIG, 3))

FRACTION = given(HALF, NOT_FRACTIONS, errors.InvalidFraction)
HALVES = given(HALF, [value for value in NOT_FRACTIONS if value is not None], errors.InvalidFraction)
TURN = given(SLANT, NOT_TURNS, errors.InvalidTurn)
WAVE = given(SWING, NOT_WAVES, errors.InvalidWave)
PLACE = given((HALF, NIL), NOT_PLACES, errors.InvalidPlace)
CAM = given(OVAL, NOT_WAVES + NO_CAMS, errors.InvalidCam)
FRAME = given(CORNER, NOT_FRAMES, errors.InvalidFrame)
SIGN = whole(-1, 1, -1)
MANY = whole(1, FINEST, 12)
GAP = given(TWO, NOT_ABOVE, errors.InvalidGap)
DISTANCE = given(HALF, NOT_ABOVE, errors.InvalidDistance)
HARMONIC = whole(1, FINEST, 13, errors.InvalidHarmonic)
LOW, HIGH = given(less(ONE), NOT_FRACTIONS, errors.InvalidFraction), given(ONE, NOT_FRACTIONS, errors.InvalidFraction)
INDEX = given(1, NO_VALUES + (-1, 2, 16, -BIG, BIG, (1,), HALF), errors.InvalidIndex)
KNOT = given((0, 4, 7), NO_VALUES + (
    (0, 4), (0, 7), (0, 4, 8), (4, 0, 7), (0, 4, 7, 7), [0, 4, 7], (True, 4, 7), (False, 4, 7), (0, 4, None), (0, 4, (7,)), (0, 6),
    (Hostile(), 4, 7), (0, 4, Hostile()), 0, BIG, nested((0, 4, 7), 1), {0: 0, 4: 4, 7: 7}, (0, 16, 7), (0, 4, 19),
), errors.InvalidKnot)

BY_NAME = {
    "fraction": FRACTION, "turn": TURN, "wave": WAVE, "place": PLACE, "cam": CAM, "frame": FRAME, "sign": SIGN, "many": MANY, "gap": GAP,
    "distance": DISTANCE, "harmonic": HARMONIC, "low": LOW, "high": HIGH, "index": INDEX, "knot": KNOT, "most": whole(1, 600, 600),
}
OTHERS = {"turns": TURN, "waves": WAVE, "frames": FRAME}
OWN = {("turn_of", "fraction"): HALVES, ("power", "number"): whole(-60, 60, 3), ("regular", "number"): whole(2, 8, 5)}


def kinds_of(file, name, parameters):
    """The kinds of the parameters of a function, by their names, in order."""
    found = {}
    for parameter in parameters.split(", "):
        by_file = {**BY_NAME, "other": OTHERS.get(file)}
        found[parameter] = OWN.get((name, parameter)) or by_file[parameter]
    return found


def right_ones(kinds):
    """A right value for each parameter."""
    return {name: kind.right for name, kind in kinds.items()}


# The bounds themselves are let.
LET = {"sign": (-1, 0, 1), "many": (1, FINEST), "harmonic": (1, FINEST), "most": (1, 600), "gap": (TINY, (BIG, 1)), "distance": (TINY, (BIG, 1)),
       "index": (0, 1), "fraction": (NIL, (-BIG, 3)), "turn": (EAST,)}
