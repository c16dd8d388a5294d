"""The checker: right papers, wrong ones and papers of other kinds for each claim, and what is no claim."""

import unittest
from fractions import Fraction
from math import gcd

from framecams.checker import accepts
from framecams.turns import is_turn, joined, power
from tests.kinds import ARMS, BOX, CAM, FRACTION, FRAME, FRAMES, SPRING, TURN, WAVE
from tests.kinds import SQUARE as SQUARE_KIND
from tests.shapes import CRANK, EDGE, FINE_EDGE, FINEST, MANY_CAM, NO_CAMS, NOUGHT, POINT, SKEW_OVAL, SWING, TINY, TWICE
from tests.shapes import TWICE_BOW, WIDE, bent, grown, less, made, numbers_of, opposite, raised
from tests.sturm import Zeros
from tests.test_alikes import parted, turned_by
from tests.test_frames import CORNER, EVEN, FACING, OPEN, RHOMB, SQUARE, TRIANGLE, told_knots
from tests.test_nevers import carried, summed
from tests.test_sizes import reckoned_area, times
from tests.test_sums import FLAT, THIN, any_solution, reckoned_product, total_of
from tests.values import BIG, EAST, EGG, HALF, Hostile, MANY_TURNS, NIL, NORTH, NO_VALUES, ONE, OVAL, ROUND_CAM, SLANT
from tests.values import SOUTH, TURNS, TWO, WEST, nested, is_reduced, number_of, pair_of, reckoned

EVEN_ARMS = (ONE, ONE)
COIL = (ONE, ONE, HALF)
NUMBERS = {SQUARE: 2, TRIANGLE: 3, CORNER: 12, RHOMB: 2, OPEN: 1, FACING: 2, EVEN: 3}
FINER_EDGE = raised(FINE_EDGE, less((1, 10 ** 8)))
OPPOSITES = {"cam": "no cam", "wide": "not wide", "turns in": "barred", "same frames": "unlike frames",
             "no play": "play", "kept": "not kept", "within": "not within", "alike": "unlike", "added": "not added"}
# What stands behind the words, for each of the first ones.
PARTS = {
    "cam": [(wave,) for wave in (ROUND_CAM, OVAL, EDGE, FINE_EDGE, POINT, NOUGHT, MANY_CAM, FINER_EDGE,
                                 SWING) + NO_CAMS],
    "wide": [(OVAL, (-1, 2), HALF), (OVAL, (-1, 2), (499, 1000)), (OVAL, (-499, 1000), HALF), (ROUND_CAM, NIL, NIL),
             (SKEW_OVAL, (-1, 2), HALF), (SKEW_OVAL, (-1, 2), (1, 3)), (ROUND_CAM, ONE, TWO),
             (MANY_CAM, (-9, 1), (9, 1)),
             (EGG, (-3, 10), (3, 10)), (POINT, (-4, 1), (4, 1)), (ROUND_CAM, (-2, 1), (-1, 1))],
    "turns in": [(wave, frame) for frame in NUMBERS for wave in (OVAL, EGG, ROUND_CAM, CRANK, MANY_CAM, TWICE, FLAT,
                                                                 THIN)],
    "same frames": [(frame, other) for frame in NUMBERS for other in NUMBERS],
    "no play": [(OVAL, OVAL, EVEN_ARMS, NORTH), (OVAL, OVAL, EVEN_ARMS, EAST), (OVAL, SKEW_OVAL, EVEN_ARMS, NORTH),
                (OVAL, OVAL, (ONE, TWO), SOUTH), (ROUND_CAM, ROUND_CAM, (HALF, TINY), SLANT),
                (EGG, EGG, EVEN_ARMS, WEST),
                (EGG, EGG, EVEN_ARMS, SLANT), (OVAL, EGG, EVEN_ARMS, EAST), (MANY_CAM, MANY_CAM, EVEN_ARMS, WEST),
                (CRANK, carried(CRANK, WEST), EVEN_ARMS, EAST), (CRANK, ROUND_CAM, EVEN_ARMS, EAST)],
    "kept": [(OVAL, COIL, (7, 4)), (OVAL, COIL, TWO), (OVAL, COIL, NIL), (SKEW_OVAL, COIL, (7, 4)),
             (OVAL, COIL, (1751, 1000)),
             (SKEW_OVAL, COIL, (1751, 1000)), (ROUND_CAM, COIL, (BIG, 1)), (OVAL, (ONE, ONE, (-2, 1)), NIL),
             (ROUND_CAM, (ONE, ONE, (-1, 1)), ONE), (EGG, (TWO, HALF, NIL), ONE), (MANY_CAM, COIL, (1, 9))],
    "within": [(OVAL, ((5, 4), ()), SLANT), (OVAL, (TWO, ()), SLANT), (OVAL, ROUND_CAM, SLANT), (OVAL, OVAL, NORTH),
               (OVAL, OVAL, WEST), (SKEW_OVAL, ((5, 4), ()), EAST), (SKEW_OVAL, made("1249/1000"), EAST),
               (POINT, OVAL, EAST),
               (NOUGHT, OVAL, SLANT), (EGG, carried(EGG, power(SLANT, -1)), SLANT), (raised(EGG, TINY), EGG, EAST)],
    "alike": [(OVAL, SKEW_OVAL), (OVAL, EGG), (EGG, carried(EGG, SLANT)), (ROUND_CAM, ROUND_CAM), (ROUND_CAM, NOUGHT),
              (OVAL, times(OVAL, 2)), (TWICE, TWICE_BOW), (made(0, (1, 0), (1, 0)), made(0, (1, 0), (0, 1))),
              (WIDE, WIDE),
              (MANY_CAM, carried(MANY_CAM, SLANT)), (MANY_CAM, turned_by(MANY_CAM, *[EAST] * 7, WEST)), (SWING, CRANK)],
    "added": [((ROUND_CAM, OVAL), FLAT), ((ROUND_CAM, OVAL), THIN), ((OVAL,), OVAL), ((OVAL,), opposite(OVAL)),
              ((OVAL, opposite(OVAL)), times(OVAL, -3)), ((OVAL,), NOUGHT), ((NOUGHT,), OVAL),
              ((SWING, TWICE) * 3, TWICE),
              ((SWING, TWICE) * 3, TWICE_BOW), ((MANY_CAM, EGG), summed(MANY_CAM, EGG)), ((MANY_CAM, EGG), MANY_CAM)],
}
SHARED = [((SQUARE, TRIANGLE), 5), ((SQUARE,), 3), ((TRIANGLE, CORNER), 11), ((OPEN,), 2), ((CORNER,) * 6, 11),
          ((TRIANGLE,), 2), ((RHOMB, SQUARE, FACING), 3)]
BARS = [("distance",)] + [("harmonic", j, knot) for j in range(1,
                                                               10) for frame in NUMBERS for knot in told_knots(frame)]
SPOTS = tuple(TURNS[:9]) + tuple(MANY_TURNS[::6])
WEIGHTS = [(ONE,), (ONE, ONE), (TWO, NIL), (NIL, ONE), (NIL,), (NIL, (3, 1)), (NIL, ONE, NIL, NIL, NIL, NIL),
           (NIL, HALF, NIL, HALF, NIL, NIL), (ONE, (4, 1)), ((-1, 1), TWO), ((4, 1), ONE)]
BARRING = [opposite(OVAL), OVAL, made(1, (0, 0), (-4, 0)), made(1, (0, 0), (-3, 0)), made(-1, (0, 0), (4, 0)), EGG,
           TWICE_BOW,
           opposite(TWICE_BOW), made(0, (0, 0), (0, 0), (-1, 0)), SWING, NOUGHT, FLAT, ROUND_CAM]
PAPERS = SPOTS + tuple(BARS) + tuple(range(-1, 14)) + tuple(WEIGHTS) + tuple(BARRING) + (
    (), 61, FINEST, FINEST + 1, FINEST + 11, (EAST, NORTH), (NORTH, EAST), (EAST, WEST), (EAST, EAST), (SLANT, NORTH),
    (EAST,),
    (SLANT, EAST), (EAST, NORTH, WEST), ("harmonic", 2), ("distance", 2), ("distance", (), ()),
    ("harmonic", True, (0, 2)),
    ("harmonic", 2, [0, 2]), ["distance"], ["harmonic", 2, (0, 2)], "distance", (b"distance",), ("Distance",), [], "",
    None,
    True, False, "()", ((),), (None,), [EAST, NORTH], Hostile(), (Hostile(),), ("harmonic", Hostile(), (0, 2)), 2j,
    ("harmonic", 2, Hostile()), (Hostile(), 2, (0, 2)), (EAST, Hostile()), ("harmonic", 2, (0, 2), ()), "harmonic",
    ("harmonic", 2, (2, 0)), ("harmonic", 2, (False, 2)), ("harmonic", "2", (0, 2)), ("harmonic", (2,), (0, 2)),
)


def is_nowhere_below(wave):
    return -1 not in Zeros(wave).signs()


def had(wave):
    """The numbers of the harmonics that the wave has."""
    return [j for j, pair in enumerate(numbers_of(wave)[1:], 1) if pair != (0, 0)]


def are_let(number, harmonics):
    return all((j - 1) % number == 0 or (j + 1) % number == 0 for j in harmonics)


def played(cam, other, arms, turn):
    a, b = [number_of(arm) for arm in arms]
    return summed(times(cam, a), times(carried(other, turn), b))


def borne(cam, spring, square):
    """STIFF times h and PRESS, plus MASS times W times h''."""
    mass, stiff, press = [number_of(number) for number in spring]
    pressed = times(raised(cam, pair_of(press)), stiff)
    return summed(pressed, times(summed(bent(cam), opposite(cam)), mass * number_of(square)))


def is_so(word, parts):
    """Whether the first one of both claims about these parts is so, a second way."""
    if word == "cam":
        return is_nowhere_below(bent(parts[0]))
    if word == "wide":
        touch = grown(parts[0])
        return is_nowhere_below(raised(touch, less(parts[1]))) and is_nowhere_below(raised(opposite(touch), parts[2]))
    if word == "turns in":
        wave, frame = parts
        return frame == OPEN or wave[0] == frame[2] and are_let(NUMBERS[frame], had(wave))
    if word == "same frames":
        return NUMBERS[parts[0]] == NUMBERS[parts[1]]
    if word == "no play":
        return not had(played(*parts))
    if word == "kept":
        return is_nowhere_below(borne(*parts))
    if word == "within":
        return is_nowhere_below(summed(carried(parts[1], parts[2]), opposite(parts[0])))
    return parted(*parts) is None if word == "alike" else any_solution(*parts)


def is_spot(paper):
    return type(paper) is tuple and is_turn(paper)


def shows(word, parts, paper):
    """Whether the paper is one for the second one of both claims, a second way."""
    if word == "cam":
        return is_spot(paper) and reckoned(bent(parts[0]), paper) < 0
    if word == "wide":
        return is_spot(paper) and not number_of(parts[1]) <= reckoned(grown(parts[0]), paper) <= number_of(parts[2])
    if word == "turns in":
        return is_bar(parts[0], parts[1], paper)
    if word == "same frames":
        numbers = [NUMBERS[part] for part in parts]
        return type(paper) is int and 1 <= paper <= FINEST and are_let(numbers[0], [paper]) != are_let(numbers[1],
                                                                                                       [paper])
    if word == "no play":
        if not isinstance(paper, tuple) or len(paper) != 2 or not all(is_spot(spot) for spot in paper):
            return False
        return len({reckoned(played(*parts), spot) for spot in paper}) == 2
    if word == "kept":
        return is_spot(paper) and reckoned(borne(*parts), paper) < 0
    if word == "within":
        return is_spot(paper) and reckoned(parts[0], paper) > reckoned(parts[1], joined(paper, parts[2]))
    if word == "alike":
        return type(paper) is tuple and len(paper) == 0 and not is_so(word, parts)
    return any(paper is wave for wave in BARRING) and is_barring(parts[0], parts[1], paper)


def is_written(value):
    """Whether it is a fraction, a second way."""
    return type(value) is tuple and len(value) == 2 and all(type(n) is int for n in value) and is_reduced(value)


def is_barring(box, wave, paper):
    return reckoned_product(paper, wave) < 0 and all(reckoned_product(paper, part) >= 0 for part in box)


def is_bar(wave, frame, paper):
    """Whether it is a bar, told anew; only those papers that are written rightly are among BARS."""
    if not any(paper is bar for bar in BARS) or not told_knots(frame):
        return False
    if wave[0] != frame[2] or len(paper) == 1:
        return wave[0] != frame[2] and paper == ("distance",)
    _, harmonic, knot = paper
    if harmonic not in had(wave) or knot not in told_knots(frame):
        return False
    number = frame[0] // gcd(frame[0], *[mark - knot[0] for mark in knot])
    return not are_let(number, [harmonic])


def adds_up(parts, paper):
    """Whether the paper is right weights."""
    if type(paper) is not tuple or len(paper) != len(parts[0]) or not all(is_written(weight) for weight in paper):
        return False
    if min(weight[0] for weight in paper) < 0:
        return False
    return total_of(parts[0], paper) == parts[1]


class Papers(unittest.TestCase):
    def assert_accepted(self, claim, paper, wanted):
        self.assertIs(accepts(claim, paper), wanted, claim[0])
        if wanted:
            self.assertIs(accepts(paper=paper, claim=claim), wanted)

    def test_each_claim_with_each_paper(self):
        for word, rows in PARTS.items():
            found = []
            for parts in rows:
                truth = is_so(word, parts)
                for paper in PAPERS:
                    is_nothing = type(paper) is tuple and len(paper) == 0
                    first = adds_up(parts, paper) if word == "added" else truth and is_nothing
                    second = shows(word, parts, paper)
                    self.assert_accepted((word,) + parts, paper, first)
                    self.assert_accepted((OPPOSITES[word],) + parts, paper, second)
                    self.assertFalse(first and not truth or second and truth)
                    found += [first, second]
            self.assertGreater(found.count(True), len(rows) - 3, word)

    def test_least_shared(self):
        for frames, harmonic in SHARED:
            for told in list(range(-2, 14)) + [harmonic + 12, FINEST, BIG, None, True, "5", (5,), Fraction(5),
                                               Hostile(), HALF]:
                is_right = type(told) is int and told == harmonic
                for paper in PAPERS[::5] + ((), (1,), 0, harmonic):
                    is_nothing = type(paper) is tuple and len(paper) == 0
                    self.assert_accepted(("least shared", frames, told), paper, is_right and is_nothing)

    def test_areas(self):
        for cam in (OVAL, EGG, EDGE, POINT, NOUGHT, MANY_CAM, ROUND_CAM, SKEW_OVAL):
            whole = reckoned_area(cam, cam)
            for told in (whole, whole + 1, whole / 2, -whole, whole + Fraction(1, BIG), 0):
                claim = ("area", cam, pair_of(Fraction(told)))
                self.assert_accepted(claim, (), told == whole)
                for paper in PAPERS[::5]:
                    self.assert_accepted(claim, paper, told == whole and type(paper) is tuple and len(paper) == 0)

    def test_waves_that_are_0_at_turns_without_fractions_alone(self):
        # The bend of the first is 0 at four such turns; that of the second one below 0 near to them alone.
        self.assert_accepted(("cam", FINE_EDGE), (), True)
        for cam in (FINE_EDGE, FINER_EDGE):
            for spot in SPOTS:
                self.assert_accepted(("no cam", cam), spot, False)
        self.assert_accepted(("cam", FINER_EDGE), (), False)
        self.assert_accepted(("within", SKEW_OVAL, made("5/4"), EAST), (), True)
        self.assert_accepted(("kept", SKEW_OVAL, COIL, (7, 4)), (), True)
        self.assert_accepted(("wide", OVAL, (-1, 2), HALF), (), True)
        for word, parts in (("not within", (SKEW_OVAL, made("5/4"), EAST)), ("not kept", (SKEW_OVAL, COIL, (7, 4))),
                            ("not wide", (OVAL, (-1, 2), HALF))):
            for spot in SPOTS:
                self.assert_accepted((word,) + parts, spot, False)

    def test_by_hand(self):
        rows = ((("turns in", EGG, SQUARE), (), True), (("turns in", OVAL, SQUARE), (), False),
                (("barred", OVAL, SQUARE), ("harmonic", 2, (1, 3)), True), (("no cam", WIDE), EAST, True),
                (("barred", OVAL, SQUARE), ("harmonic", 2, (0, 1)), False), (("no cam", WIDE), NORTH, False),
                (("barred", times(OVAL, 2), SQUARE), ("harmonic", 2, (1, 3)), False),
                (("barred", times(OVAL, 2), SQUARE), ("distance",), True),
                (("barred", OVAL, SQUARE), ("distance",), False),
                (("barred", times(OVAL, 2), OPEN), ("distance",), False),
                (("turns in", times(OVAL, 2), OPEN), (), True),
                (("unlike frames", SQUARE, TRIANGLE), 2, True), (("unlike frames", SQUARE, TRIANGLE), 3, True),
                (("unlike frames", SQUARE, TRIANGLE), 5, False), (("unlike frames", SQUARE, TRIANGLE), FINEST, True),
                (("unlike frames", SQUARE, CORNER), FINEST + 1, False), (("unlike frames", SQUARE, RHOMB), 2, False),
                (("unlike frames", SQUARE, CORNER), FINEST - 1, True),
                (("unlike frames", SQUARE, TRIANGLE), 2 + 0j, False),
                (("play", OVAL, OVAL, EVEN_ARMS, EAST), (EAST, NORTH), True),
                (("play", OVAL, OVAL, EVEN_ARMS, EAST), (NORTH, EAST), True),
                (("play", OVAL, OVAL, EVEN_ARMS, EAST), (EAST, WEST), False),
                (("play", OVAL, OVAL, EVEN_ARMS, EAST), [EAST, NORTH], False),
                (("added", (ROUND_CAM, OVAL), FLAT), (ONE, ONE), True),
                (("added", (ROUND_CAM, OVAL), FLAT), (ONE,), False),
                (("added", (OVAL, opposite(OVAL)), NOUGHT), (ONE, ONE), True),
                (("added", (OVAL, opposite(OVAL)), NOUGHT), (NIL, NIL), True),
                (("added", (OVAL, OVAL), NOUGHT), (ONE, (-1, 1)), False), (("added", (OVAL,), NOUGHT), (), False),
                (("added", (OVAL,), NOUGHT), [NIL], False), (("added", (OVAL,), OVAL), ((2, 2),), False),
                (("not added", (ROUND_CAM, OVAL), THIN), made(1, (0, 0), (-4, 0)), True),
                (("not added", (ROUND_CAM, OVAL), FLAT), made(1, (0, 0), (-4, 0)), False), (("cam", OVAL), [], False),
                (("unlike", OVAL, EGG), (), True), (("unlike", OVAL, EGG), ("harmonic", 2), False),
                (("cam", OVAL), (), True))
        for claim, paper, wanted in rows:
            self.assert_accepted(claim, paper, wanted)


# For each word right parts, with the kind of each, and a paper that is accepted.
RIGHT = (
    (("cam", OVAL), (WAVE,), ()), (("no cam", WIDE), (WAVE,), EAST),
    (("wide", OVAL, (-1, 2), HALF), (CAM, FRACTION, FRACTION), ()),
    (("not wide", POINT, NIL, ONE), (CAM, FRACTION, FRACTION), NORTH), (("turns in", EGG, SQUARE), (WAVE, FRAME), ()),
    (("barred", OVAL, SQUARE), (WAVE, FRAME), ("harmonic", 2, (0, 2))),
    (("same frames", SQUARE, RHOMB), (FRAME, FRAME), ()),
    (("unlike frames", SQUARE, TRIANGLE), (FRAME, FRAME), 2), (("least shared", (SQUARE, TRIANGLE), 5), (FRAMES,), ()),
    (("no play", OVAL, OVAL, EVEN_ARMS, NORTH), (CAM, CAM, ARMS, TURN), ()),
    (("play", OVAL, OVAL, EVEN_ARMS, EAST), (CAM, CAM, ARMS, TURN), (EAST, NORTH)),
    (("kept", OVAL, COIL, ONE), (CAM, SPRING, SQUARE_KIND), ()),
    (("not kept", OVAL, COIL, TWO), (CAM, SPRING, SQUARE_KIND), EAST),
    (("within", OVAL, (TWO, ()), SLANT), (CAM, CAM, TURN), ()),
    (("not within", OVAL, ROUND_CAM, SLANT), (CAM, CAM, TURN), EAST),
    (("alike", OVAL, SKEW_OVAL), (WAVE, WAVE), ()), (("unlike", OVAL, EGG), (WAVE, WAVE), ()),
    (("area", OVAL, (29, 32)), (CAM, FRACTION), ()), (("added", (ROUND_CAM, OVAL), FLAT), (BOX, WAVE), (ONE, ONE)),
    (("not added", (ROUND_CAM, OVAL), THIN), (BOX, WAVE), made(1, (0, 0), (-4, 0))),
)


class Claims(unittest.TestCase):
    def assert_no_claim(self, claim, paper):
        for told in (paper, (), EAST, None):
            self.assertIs(accepts(claim, told), False)

    def test_all_words(self):
        self.assertEqual(len(RIGHT), 20)
        for claim, _, paper in RIGHT:
            self.assertIs(accepts(claim, paper), True)

    def test_one_part_wrong(self):
        for claim, kinds, paper in RIGHT:
            for at, kind in enumerate(kinds, start=1):
                for wrong, _ in kind.wrong:
                    self.assert_no_claim(claim[:at] + (wrong,) + claim[at + 1:], paper)

    def test_more_or_fewer_parts(self):
        for claim, _, paper in RIGHT:
            for at in range(len(claim)):
                self.assert_no_claim(claim[:at] + claim[at + 1:], paper)
                self.assert_no_claim(claim[:at], paper)
            for more in (OVAL, (), NIL, paper, None, claim[-1]):
                self.assert_no_claim(claim + (more,), paper)
                self.assert_no_claim(claim[:1] + (more,) + claim[1:], paper)

    def test_parts_in_another_order(self):
        for claim, kinds, paper in RIGHT:
            if len(kinds) > 1 and kinds[0] is not kinds[1]:
                self.assert_no_claim(claim[:1] + claim[:0:-1], paper)
            self.assert_no_claim(claim[::-1], paper)

    def test_unlike_words(self):
        for claim, _, paper in RIGHT:
            word = claim[0]
            for other in (word.upper(), word + " ", " " + word, word.encode(), (word,), [word], word[:-1], word + "s",
                          None, 0,
                          Hostile(), True, "", "claim", word.replace(" ", "_") if " " in word else "not  " + word, (),
                          {},
                          set(), object(), 2j):
                self.assert_no_claim((other,) + claim[1:], paper)

    def test_no_tuples(self):
        for claim, _, paper in RIGHT:
            for told in (list(claim), nested(claim, 1), nested(claim, 10), {claim[0]: claim[1:]}, claim[0], str(claim)):
                self.assert_no_claim(told, paper)
        for value in NO_VALUES + (0, BIG, ("cam",), ((),), OVAL):
            for paper in NO_VALUES:
                self.assertIs(accepts(value, paper), False)

    def test_high_below_low(self):
        for low, high in ((ONE, HALF), (TINY, NIL), (TWO, (-2, 1))):
            for spot in SPOTS:
                for cam in (OVAL, POINT, ROUND_CAM):
                    self.assert_no_claim(("wide", cam, low, high), spot)
                    self.assert_no_claim(("not wide", cam, low, high), spot)

    def test_waves_where_cams_are_wanted(self):
        for wave in NO_CAMS:
            for claim in (("wide", wave, (-99, 1), (99, 1)), ("no play", wave, opposite(wave), EVEN_ARMS, EAST),
                          ("kept", wave, (ONE, ONE, (999, 1)), NIL), ("within", wave, (made(9999)), EAST),
                          ("within", wave, wave, EAST), ("area", wave, pair_of(reckoned_area(wave, wave)))):
                self.assert_no_claim(claim, ())


if __name__ == "__main__":
    unittest.main()
