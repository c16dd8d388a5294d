"""What each parameter takes and refuses, by its name: a right value, wrong ones, and what their error keeps."""

from framecams import errors
from tests.shapes import FINEST, NO_CAMS, SWING, TINY, less
from tests.test_frames import CORNER, NOT_FRAMES
from tests.test_frames import SQUARE as SQUARE_FRAME
from tests.values import BIG, EAST, HALF, Hostile, NIL, NOT_FRACTIONS, NOT_PLACES, NOT_TURNS, NOT_WAVES, NO_VALUES, ONE
from tests.values import OVAL, SLANT, TWO, nested


INDEXED = (errors.InvalidFrames, errors.InvalidHarmonics, errors.InvalidBox, errors.InvalidWeights)


class Kind:
    """A right value, the pairs of a wrong one and what the error keeps, and the class of the error."""

    def __init__(self, right, wrong, error):
        self.right = right
        self.wrong = wrong
        self.error = error
        self.kept = "index" if error in INDEXED else "given"


def given(right, wrong, error):
    """A kind of which the error keeps the very value."""
    return Kind(right, [(value, value) for value in wrong], error)


def whole(least, most, right, error=errors.InvalidNumber):
    """Whole numbers within the bounds."""
    return given(right, NO_VALUES + (least - 1, most + 1, -BIG, BIG, (1,), HALF), error)


NOT_ABOVE = NOT_FRACTIONS + (NIL, (-1, 1), less(TINY), (-BIG, 3))

FRACTION = given(HALF, NOT_FRACTIONS, errors.InvalidFraction)
HALVES = given(HALF, [value for value in NOT_FRACTIONS if value is not None], errors.InvalidFraction)
TURN = given(SLANT, NOT_TURNS, errors.InvalidTurn)
WAVE = given(SWING, NOT_WAVES, errors.InvalidWave)
PLACE = given((HALF, NIL), NOT_PLACES, errors.InvalidPlace)
CAM = given(OVAL, NOT_WAVES + NO_CAMS, errors.InvalidCam)
FRAME = given(CORNER, NOT_FRAMES, errors.InvalidFrame)
SIGN = whole(-1, 1, -1)
MANY = whole(1, FINEST, 12)
GAP = given(TWO, NOT_ABOVE, errors.InvalidGap)
DISTANCE = given(HALF, NOT_ABOVE, errors.InvalidDistance)
HARMONIC = whole(1, FINEST, 13, errors.InvalidHarmonic)
LOW, HIGH = given(less(ONE), NOT_FRACTIONS, errors.InvalidFraction), given(ONE, NOT_FRACTIONS, errors.InvalidFraction)
INDEX = given(1, NO_VALUES + (-1, 2, 16, -BIG, BIG, (1,), HALF), errors.InvalidIndex)
KNOT = given((0, 4, 7), NO_VALUES + (
    (0, 4), (0, 6), (0, 7), (0, 4, 8), (4, 0, 7), (0, 4, 7, 7), [0, 4, 7], (True, 4, 7), (False, 4, 7), (0, 4, None),
    (0, 4, (7,)), (Hostile(), 4, 7), (0, 4, Hostile()), 0, BIG, nested((0, 4, 7), 1), {0: 0, 4: 4, 7: 7}, (0, 16, 7),
    (0, 4, 19),
), errors.InvalidKnot)
SPRING = given((ONE, ONE, HALF), NOT_FRACTIONS + (
    (ONE, ONE), (ONE, ONE, HALF, HALF), [ONE, ONE, HALF], (NIL, ONE, HALF), (ONE, NIL, HALF), ((-1, 2), ONE, HALF),
    (ONE, (-1, 2), HALF), (1, ONE, HALF), (ONE, 1, HALF), (ONE, ONE, 1), (ONE, ONE, None), (ONE, ONE, (2, 4)),
    ((2, 2), ONE, HALF), (ONE, [1, 1], HALF), (Hostile(), ONE, HALF), (ONE, Hostile(), HALF), (ONE, ONE, Hostile()),
    (ONE, ONE, (True, 2)), (HALF, ONE, ()), (less(TINY), ONE, HALF), (ONE, less(TINY), NIL),
), errors.InvalidSpring)
SQUARE = given((1, 4), NOT_FRACTIONS + ((-1, 1), less(TINY), (-BIG, 3)), errors.InvalidSquare)
ARMS = given((ONE, TWO), NOT_FRACTIONS + (
    ONE, (ONE,), (ONE, ONE, ONE), [ONE, ONE], (NIL, ONE), (ONE, NIL), (less(TINY), ONE), (ONE, less(TINY)), (1, 1),
    (1, ONE), (ONE, 2), (ONE, None), (ONE, (2, 2)), ((3, 3), ONE), (ONE, [1, 1]), (Hostile(), ONE), (ONE, Hostile()),
    ((True, 1), ONE), OVAL,
), errors.InvalidArms)


def no_lists(values):
    """What is no tuple of the right elements, with None or, for a tuple with elements, the index 0."""
    return [(value, 0 if isinstance(value, tuple) and value else None) for value in values]


def lists_with(wrong, right, some, more):
    """Tuples in which the wrong element is the first wrong one, with its index."""
    return [((wrong,), 0), ((wrong, wrong), 0), ((wrong,) * 7, 0), ((right, wrong), 1), (some[:5] + (wrong, wrong), 5),
            (some + (wrong,), 6), (some + (more, wrong), 6)]


NO_FRAMES = no_lists(NO_VALUES + (0, BIG, [CORNER], {CORNER: 1}, CORNER, ((CORNER,),)))
for found in NOT_FRAMES:
    NO_FRAMES += lists_with(found, CORNER, (CORNER, SQUARE_FRAME) * 3, CORNER)
FRAMES = Kind((CORNER, SQUARE_FRAME), NO_FRAMES + [((CORNER,) * 7, 6), ((CORNER,) * 60, 6)], errors.InvalidFrames)

NO_HARMONICS = no_lists(NO_VALUES + (0, 3, BIG, [3, 5], {3: 5}, range(3, 5), (1, 0), (-3, 3)))
for found in NO_VALUES + (-BIG, -2, 0, 1, 10 ** 6 + 1, BIG, HALF, (3,)):
    NO_HARMONICS += lists_with(found, 2, (3, 5, 7, 11, 13, 10 ** 6), 10 ** 6 + 1)
HARMONICS = Kind((5, 7), NO_HARMONICS + [
    ((3, 3), 1), ((3, 2), 1), ((5, 2, 3), 1), ((2, 3, 4, 4, 5), 3), ((2, 5, 3, 4), 2), ((2, 3, 4, 5, 6, 7, 8), 6),
    ((2, 3, 4, 5, 6, 6, 8), 5), ((2, 3, 4, 5, 6, 7, 7), 6), (tuple(range(2, 62)), 6), ((10 ** 6, 10 ** 6 + 1), 1),
], errors.InvalidHarmonics)

NO_BOXES = no_lists(NO_VALUES + (0, BIG, [OVAL], {OVAL: 1}, OVAL, ((OVAL,),)))
for found in NOT_WAVES:
    NO_BOXES += lists_with(found, SWING, (OVAL, SWING) * 3, OVAL)
BOX = Kind((SWING, OVAL), NO_BOXES + [((OVAL,) * 7, 6), ((OVAL,) * 60, 6)], errors.InvalidBox)

# For a box of two waves.
NO_WEIGHTS = [(value, None) for value in NO_VALUES + ((ONE,), (ONE,) * 3, [ONE, ONE], (), ONE + ONE, {ONE: 1, NIL: 1})
              if not isinstance(value, tuple) or len(value) != 2]
for found in NOT_FRACTIONS + ((-1, 1), less(TINY), (-BIG, 3)):
    NO_WEIGHTS += [((found, ONE), 0), ((ONE, found), 1), ((found, found), 0), ((found,), None),
                   ((ONE, NIL, found), None)]
WEIGHTS = Kind((HALF, NIL), NO_WEIGHTS, errors.InvalidWeights)

BY_NAME = {
    "fraction": FRACTION, "turn": TURN, "wave": WAVE, "place": PLACE, "cam": CAM, "frame": FRAME, "sign": SIGN,
    "many": MANY, "gap": GAP, "distance": DISTANCE, "harmonic": HARMONIC, "low": LOW, "high": HIGH, "index": INDEX,
    "knot": KNOT, "most": whole(1, 600, 600), "spring": SPRING, "square": SQUARE, "arms": ARMS, "frames": FRAMES,
    "harmonics": HARMONICS, "width": FRACTION, "level": FRACTION, "spot": TURN, "box": BOX, "weights": WEIGHTS,
    "value": Kind(OVAL, [], None),
}
OTHERS = {"turns": TURN, "waves": WAVE, "frames": FRAME, "pairs": CAM, "nevers": CAM, "alikes": WAVE, "sizes": CAM,
          "sums": WAVE}
OWN = {("turn_of", "fraction"): HALVES, ("power", "number"): whole(-60, 60, 3), ("regular", "number"): whole(2, 8, 5),
       ("most_feet", "number"): whole(2, 60, 12), ("widest_frame", "number"): whole(2, 60, 12),
       ("weight_range", "number"): whole(0, 1, 0), ("certify_frames", "other"): FRAME, ("certify_play", "other"): CAM,
       ("certify_within", "other"): CAM, ("certify_alike", "other"): WAVE}


def kinds_of(file, name, parameters):
    """The kinds of the parameters of a function, by their names, in order."""
    found = {}
    for parameter in parameters.split(", "):
        by_file = {**BY_NAME, "other": OTHERS.get(file)}
        found[parameter] = OWN.get((name, parameter)) or by_file[parameter]
    return found


def right_ones(kinds):
    """A right value for each parameter."""
    return {name: kind.right for name, kind in kinds.items()}


# The bounds themselves are let.
LET = {"sign": (-1, 0, 1), "many": (1, FINEST), "harmonic": (1, FINEST), "most": (1, 600), "gap": (TINY, (BIG, 1)),
       "distance": (TINY, (BIG, 1)),
       "index": (0, 1), "fraction": (NIL, (-BIG, 3)), "turn": (EAST,), "square": (NIL, TINY), "width": (NIL, (-BIG, 3)),
       "level": (NIL, (-BIG, 3)),
       "arms": ((TINY, (BIG, 1)),), "spring": ((TINY, TINY, (BIG, 1)),), "frames": ((CORNER,), (CORNER,) * 6),
       "harmonics": ((2,), (2, 3, 4, 5, 6, 10 ** 6)), "spot": (EAST,), "weights": ((NIL, NIL), ((BIG, 1), TINY)),
       "box": ((SWING, SWING), (SWING, OVAL))}
