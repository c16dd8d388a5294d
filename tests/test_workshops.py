"""Workshops: names, wishes that hold after each change, undoing, and trials."""

import unittest
from random import Random

from framecams import errors
from framecams.workshops import Workshop
from tests.kinds import ARMS, CAM, FRAME, TURN
from tests.shapes import CRANK, EDGE, FINE_EDGE, FINEST, MANY_CAM, POINT, SKEW_OVAL, TINY, bent, grown, less, made
from tests.shapes import numbers_of, opposite, raised
from tests.sturm import Zeros
from tests.test_alikes import parted
from tests.test_feet import broad
from tests.test_frames import CORNER, EVEN, FACING, OPEN, RHOMB, SQUARE, TRIANGLE
from tests.test_nevers import carried, summed
from tests.test_sizes import times
from tests.values import BIG, EAST, EGG, HALF, Hostile, NIL, NORTH, NOT_FRACTIONS, NO_VALUES, ONE, OVAL, ROUND_CAM
from tests.values import SLANT, SOUTH, TWO, WEST, nested, number_of

EVEN_ARMS = (ONE, ONE)
NAMES = ("a", "z", "ei", "abcdefghijkl", "zzzzzzzzzzzz", "put", "none", "west", "smooth")
# "text" among the values for all is a name.
NO_NAMES = tuple([value for value in NO_VALUES if not isinstance(value, str) or value != "text"]) + (
    0, BIG, "A", "aB", "a b", " a", "a ", "a1", "1", "a_b", "a-b", "abcdefghijklm", "a" * 13, "a" * 60, "a:", "a\n",
    "\n",
    ("a",), ["a"], {"a": 1}, b"a", "~", "`", "{", "@", "[", "a.b", "Abc", "abC",
)
# Right wishes about a and b, with cams for which each holds, and other cams for a, or for b, for which it does not.
SMALL = made("1/2", (0, 0), ("1/8", 0))
ROWS = (
    (("smooth", "a"), OVAL, ROUND_CAM, {"a": (EDGE, POINT, FINE_EDGE)}),
    (("turns in", "a", SQUARE), EGG, OVAL, {"a": (OVAL, (TWO, ()), raised(EGG, TINY))}),
    (("turns in", "a", TRIANGLE), OVAL, EGG, {"a": (EGG, MANY_CAM)}),
    (("turns in", "a", CORNER), CRANK, EGG, {"a": (EGG, OVAL, POINT)}),
    (("turns in", "a", RHOMB), EGG, OVAL, {"a": (OVAL, SKEW_OVAL)}),
    (("turns in", "a", EVEN), OVAL, OVAL, {"a": (EGG,)}), (("turns in", "a", FACING), EGG, OVAL, {"a": (OVAL,)}),
    (("foot", "a", (-1, 2), HALF), OVAL, ROUND_CAM, {"a": (made(1, (0, 0), ("1/4", "1/1000000000")), MANY_CAM, POINT)}),
    (("foot", "a", (-1, 2), HALF), SKEW_OVAL, ROUND_CAM, {"a": (summed(SKEW_OVAL, made(0, ("1/1000000000", 0))),)}),
    (("foot", "a", NIL, NIL), ROUND_CAM, OVAL, {"a": (OVAL, CRANK)}),
    (("breadth", "a", (3, 2), (5, 2)), OVAL, EGG, {"a": (raised(OVAL, TINY), raised(OVAL, less(TINY)), EDGE)}),
    (("breadth", "a", TWO, TWO), EGG, OVAL, {"a": (OVAL, SKEW_OVAL, raised(EGG, TINY))}),
    (("breadth", "a", TWO, TWO), CRANK, OVAL, {"a": (made(1, (1, 0), ("1/1000000000", 0)),)}),
    (("under", "a", "b"), OVAL, made("5/4"), {"a": (raised(OVAL, TINY), made(2)), "b": (OVAL[:1] + ((),), POINT)}),
    (("under", "a", "b"), SKEW_OVAL, made("5/4"), {"a": (raised(SKEW_OVAL, TINY),), "b": (made("1249999/1000000"),)}),
    (("under", "a", "b"), EGG, EGG, {"a": (carried(EGG, WEST), OVAL), "b": (carried(EGG, NORTH),)}),
    (("alike", "a", "b"), OVAL, SKEW_OVAL, {"a": (EGG, EDGE), "b": (ROUND_CAM, raised(OVAL, TINY))}),
    (("alike", "b", "a"), EGG, carried(EGG, SLANT), {"a": (OVAL,), "b": (raised(EGG, ONE),)}),
    (("without play", "a", "b", EVEN_ARMS, NORTH), OVAL, OVAL, {"a": (SKEW_OVAL, EGG), "b": (SKEW_OVAL, ROUND_CAM)}),
    (("without play", "a", "b", (ONE, TWO), SOUTH), OVAL, made(1, (0, 0), ("1/8", 0)), {"a": (EDGE,), "b": (OVAL,)}),
    (("without play", "b", "a", (TWO, ONE), NORTH), OVAL, made(1, (0, 0), ("1/8", 0)), {"a": (EDGE,), "b": (OVAL,)}),
    (("without play", "a", "b", EVEN_ARMS, EAST), EGG, carried(EGG, WEST), {"a": (OVAL,), "b": (EGG,)}),
)
ALONE = (
    (("under", "a", "a"), OVAL, True), (("alike", "a", "a"), MANY_CAM, True),
    (("without play", "a", "a", EVEN_ARMS, NORTH), OVAL, True),
    (("without play", "a", "a", EVEN_ARMS, EAST), OVAL, False),
    (("without play", "a", "a", EVEN_ARMS, WEST), EGG, True),
    (("without play", "a", "a", EVEN_ARMS, SLANT), EGG, False),
    (("turns in", "a", OPEN), MANY_CAM, True),
)


def turns_by_number(wave, frame):
    """Whether the wave turns in one of these frames, by the frame's number."""
    number = {SQUARE: 2, RHOMB: 2, FACING: 2, TRIANGLE: 3, CORNER: 12, EVEN: 3, OPEN: 0}[frame]
    had = [j for j, pair in enumerate(numbers_of(wave)[1:], 1) if pair != (0, 0)]
    return number == 0 or wave[0] == frame[2] and all((j - 1) % number == 0 or (j + 1) % number == 0 for j in had)


def is_nowhere_below(wave):
    return -1 not in Zeros(wave).signs()


def is_between(wave, low, high):
    return is_nowhere_below(raised(wave, less(low))) and is_nowhere_below(raised(opposite(wave), high))


def is_kept(wish, cams):
    """Whether the wish holds, a second way."""
    word, cam = wish[0], cams[wish[1]]
    if word == "smooth":
        return Zeros(bent(cam)).signs() == (1,) and not Zeros(bent(cam)).order
    if word == "turns in":
        return turns_by_number(cam, wish[2])
    if word in ("foot", "breadth"):
        return is_between(grown(cam) if word == "foot" else broad(cam), wish[2], wish[3])
    other = cams[wish[2]]
    if word == "under":
        return is_nowhere_below(summed(other, opposite(cam)))
    if word == "alike":
        return parted(cam, other) is None
    (a, b), turn = [number_of(arm) for arm in wish[3]], wish[4]
    return len(summed(times(cam, a), times(carried(other, turn), b))[1]) == 0


class Shops(unittest.TestCase):
    def assert_state(self, shop, cams, wishes, many):
        """All that a workshop tells."""
        self.assertEqual((shop.names, shop.wishes), (tuple(sorted(cams)), tuple(wishes)))
        self.assertEqual((type(shop.names), type(shop.wishes)), (tuple, tuple))
        self.assertEqual({name: shop.named(name) for name in shop.names}, cams)
        self.assertEqual((len(shop), bool(shop)), (many, True))
        for name in NAMES + tuple(cams):
            self.assertIs(name in shop, name in cams)
        for wish in shop.wishes:
            self.assertTrue(is_kept(wish, cams))

    def snapshot(self, shop):
        return {name: shop.named(name) for name in shop.names}, shop.wishes, len(shop)

    def assert_refused(self, shop, call, error, name=None, kept=None):
        """The call raises just this error, which keeps this, and changes nothing."""
        before = self.snapshot(shop)
        with self.assertRaises(errors.CamError) as caught:
            call()
        self.assertIs(type(caught.exception), error)
        self.assertEqual(list(vars(caught.exception)), [name] if name else [])
        if name == "given":
            self.assertIs(caught.exception.given, kept)
        elif name:
            self.assertEqual((type(caught.exception.index), caught.exception.index), (int, kept))
        self.assert_state(shop, *before)

    def filled(self, **cams):
        shop = Workshop()
        for name, cam in cams.items():
            shop.put(name, cam)
        return shop


class Cams(Shops):
    def test_a_new_one(self):
        self.assert_state(Workshop(), {}, (), 0)
        self.assertNotEqual(Workshop(), Workshop())
        shop = Workshop()
        self.assertTrue(shop == shop and not shop != shop and shop != Workshop() and shop != 1)

    def test_put_and_named(self):
        shop, cams = Workshop(), {}
        for many, (name, cam) in enumerate(zip(NAMES, (OVAL, EGG, POINT, MANY_CAM) * 3), start=1):
            self.assertIsNone(shop.put(name, cam))
            cams[name] = cam
            self.assert_state(shop, cams, (), many)
        self.assertIsNone(shop.put(cam=EGG, name="a"))
        self.assertEqual([shop.named("a"), shop.named(name="a")], [EGG, EGG])
        self.assert_state(shop, {**cams, "a": EGG}, (), len(NAMES) + 1)

    def test_putting_what_is_there_is_a_change(self):
        shop = self.filled(a=OVAL)
        for many in range(2, 5):
            shop.put("a", OVAL)
            self.assert_state(shop, {"a": OVAL}, (), many)
        shop.undo()
        self.assert_state(shop, {"a": OVAL}, (), 3)

    def test_no_names(self):
        shop = self.filled(a=OVAL)
        for name in NO_NAMES:
            for cam in (OVAL, None, EDGE[0]):
                self.assert_refused(shop, lambda: shop.put(name, cam), errors.InvalidName, "given", name)
                self.assert_refused(shop, lambda: shop.put(cam=cam, name=name), errors.InvalidName, "given", name)
            self.assert_refused(shop, lambda: shop.named(name), errors.UnknownName, "given", name)
            self.assert_refused(shop, lambda: shop.drop(name=name), errors.UnknownName, "given", name)
            self.assertIs(name in shop, False)

    def test_no_cams(self):
        shop = self.filled(a=OVAL)
        shop.wish(("smooth", "a"))
        for name in ("a", "b"):
            for wrong, _ in CAM.wrong:
                self.assert_refused(shop, lambda: shop.put(name, wrong), errors.InvalidCam, "given", wrong)
                self.assert_refused(shop, lambda: shop.put(cam=wrong, name=name), errors.InvalidCam, "given", wrong)

    def test_drop(self):
        shop = self.filled(a=OVAL, b=EGG)
        self.assertIsNone(shop.drop("a"))
        self.assert_state(shop, {"b": EGG}, (), 3)
        for name in ("a", "c", "bb", ""):
            self.assert_refused(shop, lambda: shop.drop(name), errors.UnknownName, "given", name)
            self.assert_refused(shop, lambda: shop.named(name=name), errors.UnknownName, "given", name)
        shop.drop(name="b")
        self.assert_state(shop, {}, (), 4)

    def test_names_in_use(self):
        shop = self.filled(a=OVAL, b=made(9), c=made(20), d=EGG)
        for wish in (("under", "b", "c"), ("smooth", "a"), ("under", "a", "b"), ("alike", "c", "c"), ("smooth", "a")):
            shop.wish(wish)
        for name, index in (("a", 1), ("b", 0), ("c", 0)):
            self.assert_refused(shop, lambda: shop.drop(name), errors.InUse, "index", index)
            self.assert_refused(shop, lambda: shop.drop(name=name), errors.InUse, "index", index)
        shop.drop("d")
        shop.lift(0)
        for name, index in (("a", 0), ("b", 1), ("c", 2)):
            self.assert_refused(shop, lambda: shop.drop(name), errors.InUse, "index", index)
        shop.lift(1)
        shop.drop("b")
        self.assert_state(shop, {"a": OVAL, "c": made(20)}, (("smooth", "a"), ("alike", "c", "c"), ("smooth", "a")), 13)

    def test_names_that_are_like_words_of_wishes(self):
        shop = self.filled(smooth=OVAL, a=OVAL)
        shop.wish(("smooth", "a"))
        shop.drop("smooth")
        self.assert_state(shop, {"a": OVAL}, (("smooth", "a"),), 4)


class Wishes(Shops):
    def test_each_form_kept(self):
        for wish, a, b, _ in ROWS + tuple((wish, cam, cam, None) for wish, cam, is_so in ALONE if is_so):
            shop = self.filled(a=a, b=b)
            self.assertIsNone(shop.wish(wish))
            self.assert_state(shop, {"a": a, "b": b}, (wish,), 3)
            self.assertIsNone(shop.wish(wish=wish))
            self.assert_state(shop, {"a": a, "b": b}, (wish, wish), 4)

    def test_each_form_broken_by_wish(self):
        for wish, a, b, others in ROWS:
            for name, cams in others.items():
                for cam in cams:
                    found = {**{"a": a, "b": b}, name: cam}
                    self.assertFalse(is_kept(wish, found))
                    shop = self.filled(**found)
                    self.assert_refused(shop, lambda: shop.wish(wish), errors.Broken, "index", 0)
                    for many in range(3):
                        shop.wish(("alike", "a", "a"))
                        self.assert_refused(shop, lambda: shop.wish(wish=wish), errors.Broken, "index", many + 1)
        for wish, cam, is_so in ALONE:
            self.assertIs(is_kept(wish, {"a": cam}), is_so)
            if not is_so:
                shop = self.filled(a=cam)
                self.assert_refused(shop, lambda: shop.wish(wish), errors.Broken, "index", 0)

    def test_each_form_broken_by_put(self):
        for wish, a, b, others in ROWS:
            shop = self.filled(a=a, b=b)
            shop.wish(("alike", "b", "b"))
            shop.wish(wish)
            for name, cams in others.items():
                for cam in cams:
                    self.assert_refused(shop, lambda: shop.put(name, cam), errors.Broken, "index", 1)
                    self.assert_refused(shop, lambda: shop.put(cam=cam, name=name), errors.Broken, "index", 1)
            shop.put("a", a)
            shop.put("b", b)
            self.assert_state(shop, {"a": a, "b": b}, (("alike", "b", "b"), wish), 6)
            shop.lift(1)
            for name, cams in others.items():
                shop.put(name, cams[0])
                self.assertEqual(shop.named(name), cams[0])

    def test_one_put_for_both_names(self):
        # The oval without play with itself: any cam without play with itself may come in its place.
        shop = self.filled(a=OVAL)
        shop.wish(("without play", "a", "a", EVEN_ARMS, NORTH))
        shop.put("a", SKEW_OVAL)
        self.assert_refused(shop, lambda: shop.put("a", EGG), errors.Broken, "index", 0)

    def test_the_first_wish_that_would_not_hold(self):
        shop = self.filled(a=OVAL, b=made(9))
        for wish in (("alike", "a", "a"), ("smooth", "b"), ("foot", "a", (-1, 2), HALF), ("under", "a", "b"),
                     ("breadth", "a", ONE, (3, 1)), ("smooth", "a"), ("smooth", "b")):
            shop.wish(wish)
        for name, cam, index in (("a", MANY_CAM, 2), ("a", made(20), 3), ("a", made(5), 4), ("b", ROUND_CAM, 3),
                                 ("b", POINT, 1), ("a", made(10, ("1/8", 0)), 3), ("a", made("2/5"), 4)):
            self.assert_refused(shop, lambda: shop.put(name, cam), errors.Broken, "index", index)
        shop.lift(2)
        self.assert_refused(shop, lambda: shop.put("a", MANY_CAM), errors.Broken, "index", 2)
        for wish, index in ((("under", "b", "a"), 6), (("smooth", "a"), None), (("alike", "a", "b"), 7)):
            if index is None:
                shop.wish(wish)
            else:
                self.assert_refused(shop, lambda: shop.wish(wish), errors.Broken, "index", index)

    def test_unknown_names(self):
        shop = self.filled(a=OVAL)
        for wish, name in ((("smooth", "b"), 1), (("under", "a", "b"), 2), (("under", "b", "a"), 1),
                           (("under", "b", "c"), 1), (("alike", "c", "b"), 1), (("alike", "c", "c"), 1),
                           (("foot", "b", NIL, ONE), 1), (("breadth", "ab", ONE, ONE), 1),
                           (("turns in", "b", SQUARE), 1),
                           (("without play", "a", "b", EVEN_ARMS, EAST), 2),
                           (("without play", "c", "b", EVEN_ARMS, EAST), 1)):
            self.assert_refused(shop, lambda: shop.wish(wish), errors.UnknownName, "given", wish[name])
            self.assert_refused(shop, lambda: shop.wish(wish=wish), errors.UnknownName, "given", wish[name])
        shop.put("b", made(9))
        shop.wish(("under", "a", "b"))
        shop.lift(0)
        shop.drop("b")
        self.assert_refused(shop, lambda: shop.wish(("under", "a", "b")), errors.UnknownName, "given", "b")

    def wrong_wishes(self):
        found = list(NO_VALUES) + [0, BIG, "smooth", ["smooth", "a"], ("smooth",), ("smooth", "a", "a"),
                                   ("Smooth", "a"),
                                   ("smooth ", "a"), ("rough", "a"), ("cam", "a"), ("turns_in", "a", SQUARE), ("", "a"),
                                   ("under", "a"), ("under", "a", "b", "b"), ("alike", "a"), ("alike", "a", "b", EAST),
                                   ("turns in", "a"), ("turns in", "a", SQUARE, SQUARE), ("turns in", SQUARE, "a"),
                                   ("foot", "a", ONE), ("foot", "a", ONE, TWO, TWO), ("breadth", "a", ONE), (None, "a"),
                                   ("foot", ONE, TWO, "a"), ("without play", "a", "b", EVEN_ARMS),
                                   ("without play", "a", "b", EAST, EVEN_ARMS), (("smooth",), "a"), (b"smooth", "a"),
                                   ("without play", "a", EVEN_ARMS, EAST), (Hostile(), "a"), nested(("smooth", "a"), 1),
                                   ("without play", "a", "b", EVEN_ARMS, EAST, EAST), {"smooth": "a"},
                                   ("smooth", ("a",))]
        for low, high in ((TWO, ONE), (NIL, less(TINY)), (HALF, (1, 3)), ((BIG, 1), (BIG - 1, 1))):
            found += [("foot", "a", low, high), ("breadth", "a", low, high)]
        for name in NO_NAMES:
            found += [("smooth", name), ("under", "a", name), ("under", name, "a"), ("alike", name, name),
                      ("foot", name, NIL, ONE), ("breadth", name, NIL, ONE), ("turns in", name, SQUARE),
                      ("without play", name, "a", EVEN_ARMS, EAST), ("without play", "a", name, EVEN_ARMS, EAST)]
        for part in NOT_FRACTIONS[::2]:
            found += [(word, "a", *bounds) for word in ("foot", "breadth") for bounds in ((part, ONE), (ONE, part))]
        found += [("turns in", "a", wrong) for wrong, _ in FRAME.wrong]
        found += [("without play", "a", "a", wrong, EAST) for wrong, _ in ARMS.wrong]
        return found + [("without play", "a", "a", EVEN_ARMS, wrong) for wrong, _ in TURN.wrong[::2]]

    def test_no_wishes(self):
        shop = self.filled(a=OVAL, b=EGG)
        for wrong in self.wrong_wishes():
            with self.assertRaises(errors.InvalidWish) as caught:
                shop.wish(wrong)
            self.assertIs(caught.exception.given, wrong)
        for wrong in self.wrong_wishes()[::9]:
            self.assert_refused(shop, lambda: shop.wish(wrong), errors.InvalidWish, "given", wrong)
            self.assert_refused(shop, lambda: shop.wish(wish=wrong), errors.InvalidWish, "given", wrong)
        self.assert_state(shop, {"a": OVAL, "b": EGG}, (), 2)

    def test_what_is_wrong_comes_ahead_of_unknown_names(self):
        shop = Workshop()
        for wish in (("foot", "a", ONE, NIL), ("turns in", "a", (4, (0, 0), ONE)), ("under", "a", "B"),
                     ("smooth", "aA"),
                     ("without play", "a", "b", (ONE, NIL), EAST), ("without play", "a", "b", EVEN_ARMS, (ONE, ONE))):
            self.assert_refused(shop, lambda: shop.wish(wish), errors.InvalidWish, "given", wish)

    def test_bounds_of_one_number(self):
        shop = self.filled(a=ROUND_CAM)
        shop.wish(("foot", "a", NIL, NIL))
        shop.wish(("breadth", "a", TWO, TWO))
        self.assert_refused(shop, lambda: shop.wish(("foot", "a", TINY, TINY)), errors.Broken, "index", 2)
        self.assert_refused(shop, lambda: shop.wish(("breadth", "a", ONE, (2 * FINEST - 1, FINEST))), errors.Broken,
                            "index", 2)

    def test_lift(self):
        shop = self.filled(a=OVAL, b=made(9))
        wishes = [("smooth", "a"), ("under", "a", "b"), ("smooth", "b")]
        for wish in wishes:
            shop.wish(wish)
        for index in NO_VALUES + (-1, 3, 4, -3, BIG, -BIG, "0", (0,)):
            self.assert_refused(shop, lambda: shop.lift(index), errors.InvalidIndex, "given", index)
            self.assert_refused(shop, lambda: shop.lift(index=index), errors.InvalidIndex, "given", index)
        self.assertIsNone(shop.lift(1))
        self.assert_state(shop, {"a": OVAL, "b": made(9)}, (wishes[0], wishes[2]), 6)
        self.assertIsNone(shop.lift(index=1))
        self.assertIsNone(shop.lift(0))
        self.assert_state(shop, {"a": OVAL, "b": made(9)}, (), 8)
        for index in (0, -1, None):
            self.assert_refused(shop, lambda: shop.lift(index), errors.InvalidIndex, "given", index)

    def test_what_was_told_does_not_change(self):
        shop = self.filled(a=OVAL)
        names, wishes = shop.names, shop.wishes
        shop.put("b", EGG)
        shop.wish(("smooth", "a"))
        self.assertEqual((names, wishes), (("a",), ()))


class Undoing(Shops):
    def test_back_to_the_beginning(self):
        shop = Workshop()
        rows = [self.snapshot(shop)]
        for change in (lambda: shop.put("a", OVAL), lambda: shop.put("b", made(9)), lambda: shop.wish(("smooth", "a")),
                       lambda: shop.put("a", OVAL), lambda: shop.wish(("under", "a", "b")), lambda: shop.put("a", EGG),
                       lambda: shop.lift(0), lambda: shop.lift(0), lambda: shop.drop("a"),
                       lambda: shop.put("a", POINT)):
            change()
            rows.append(self.snapshot(shop))
        for row in reversed(rows[:-1]):
            self.assertIsNone(shop.undo())
            self.assert_state(shop, *row)
        for _ in range(2):
            self.assert_refused(shop, shop.undo, errors.NothingToUndo)

    def test_undoing_is_no_change(self):
        shop = self.filled(a=OVAL, b=EGG)
        shop.undo()
        shop.put("c", EGG)
        self.assert_state(shop, {"a": OVAL, "c": EGG}, (), 2)
        shop.undo()
        shop.undo()
        self.assert_state(shop, {}, (), 0)
        self.assert_refused(shop, shop.undo, errors.NothingToUndo)

    def test_errors_are_no_changes(self):
        shop = self.filled(a=OVAL)
        shop.wish(("smooth", "a"))
        for call in (lambda: shop.put("a", EDGE), lambda: shop.put("B", OVAL), lambda: shop.drop("a"),
                     lambda: shop.drop("b"), lambda: shop.wish(("smooth", "b")), lambda: shop.wish(()),
                     lambda: shop.wish(("turns in", "a", SQUARE)), lambda: shop.lift(1), lambda: shop.put("a", None)):
            with self.assertRaises(errors.CamError):
                call()
        self.assert_state(shop, {"a": OVAL}, (("smooth", "a"),), 2)
        shop.undo()
        self.assert_state(shop, {"a": OVAL}, (), 1)

    def test_lifted_wishes_come_back(self):
        shop = self.filled(a=OVAL)
        shop.wish(("smooth", "a"))
        shop.lift(0)
        shop.put("a", EDGE)
        shop.undo()
        shop.undo()
        self.assert_refused(shop, lambda: shop.put("a", EDGE), errors.Broken, "index", 0)

    def test_many_changes(self):
        shop = Workshop()
        for many in range(2000):
            shop.put("a", (ROUND_CAM, OVAL)[many % 2])
        self.assertEqual(len(shop), 2000)
        for many in range(1999, -1, -1):
            shop.undo()
            self.assertEqual(len(shop), many)
        self.assert_state(shop, {}, (), 0)


class Failed(Exception):
    """What ends the blocks here."""


class Trials(Shops):
    def begun(self):
        shop = self.filled(a=OVAL, b=made(9))
        shop.wish(("smooth", "a"))
        return shop

    def change(self, shop):
        shop.put("c", EGG)
        shop.wish(("under", "a", "b"))
        shop.lift(0)
        shop.put("a", EDGE)

    def fail_in(self, trial, action, error=Failed):
        with self.assertRaises(error):
            with trial as inner:
                action(inner)
                raise error()

    def test_a_call_alone_changes_nothing(self):
        shop = self.begun()
        before = self.snapshot(shop)
        self.assertIsNot(shop.trial(), shop.trial())
        self.assert_state(shop, *before)

    def test_one_that_ends_well(self):
        shop = self.begun()
        with shop.trial() as inner:
            self.assertIs(inner, shop)
            self.change(shop)
        self.assert_state(shop, {"a": EDGE, "b": made(9), "c": EGG}, (("under", "a", "b"),), 7)
        shop.undo()
        self.assert_state(shop, {"a": OVAL, "b": made(9), "c": EGG}, (("under", "a", "b"),), 6)

    def test_one_that_ends_with_an_exception(self):
        for error in (Failed, KeyError, ValueError, KeyboardInterrupt, SystemExit, GeneratorExit):
            shop = self.begun()
            before = self.snapshot(shop)
            self.fail_in(shop.trial(), self.change, error)
            self.assert_state(shop, *before)
            shop.undo()
            self.assert_state(shop, {"a": OVAL, "b": made(9)}, (), 2)

    def test_the_exception_is_passed_on(self):
        shop = self.begun()
        failure = Failed()
        with self.assertRaises(Failed) as caught:
            with shop.trial():
                raise failure
        self.assertIs(caught.exception, failure)
        with self.assertRaises(errors.Broken) as broken:
            with shop.trial():
                shop.put("c", OVAL)
                shop.put("a", EDGE)
        self.assertEqual(broken.exception.index, 0)
        self.assertEqual(shop.names, ("a", "b"))

    def test_an_error_that_is_caught_inside(self):
        shop = self.begun()
        with shop.trial():
            shop.put("c", OVAL)
            with self.assertRaises(errors.Broken):
                shop.put("a", EDGE)
        self.assert_state(shop, {"a": OVAL, "b": made(9), "c": OVAL}, (("smooth", "a"),), 4)

    def test_undoing_what_was_before(self):
        shop = self.begun()
        before = self.snapshot(shop)

        def undo_all(inner):
            while len(inner):
                inner.undo()
            inner.put("z", EGG)

        self.fail_in(shop.trial(), undo_all)
        self.assert_state(shop, *before)
        for many in (2, 1, 0):
            shop.undo()
            self.assertEqual(len(shop), many)
        shop = self.begun()
        with shop.trial():
            undo_all(shop)
        self.assert_state(shop, {"z": EGG}, (), 1)

    def test_trials_within_trials(self):
        for outer_fails in (False, True):
            for inner_fails in (False, True):
                shop = self.begun()
                rows = [self.snapshot(shop)]
                try:
                    with shop.trial():
                        shop.put("c", OVAL)
                        rows.append(self.snapshot(shop))
                        try:
                            with shop.trial():
                                self.change(shop)
                                rows.append(self.snapshot(shop))
                                if inner_fails:
                                    raise Failed()
                        except Failed:
                            pass
                        self.assert_state(shop, *rows[1 if inner_fails else 2])
                        if outer_fails:
                            raise Failed()
                except Failed:
                    pass
                self.assert_state(shop, *rows[0 if outer_fails else 1 if inner_fails else 2])

    def test_one_value_for_statements_behind_one_another(self):
        shop = self.begun()
        trial = shop.trial()
        shop.put("d", EGG)
        before = self.snapshot(shop)
        for _ in range(2):
            self.fail_in(trial, self.change)
            self.assert_state(shop, *before)
        with trial as inner:
            inner.put("e", EGG)
        before = self.snapshot(shop)
        self.assertIn("e", shop)
        self.fail_in(trial, lambda inner: inner.drop("e"))
        self.assert_state(shop, *before)

    def test_one_value_for_statements_within_one_another(self):
        shop = self.begun()
        trial = shop.trial()
        first = self.snapshot(shop)
        with self.assertRaises(Failed):
            with trial:
                shop.put("c", OVAL)
                second = self.snapshot(shop)
                self.fail_in(trial, self.change)
                self.assert_state(shop, *second)
                with trial:
                    shop.put("d", OVAL)
                    third = self.snapshot(shop)
                    self.fail_in(trial, lambda inner: inner.undo())
                    self.assert_state(shop, *third)
                self.assert_state(shop, *third)
                raise Failed()
        self.assert_state(shop, *first)
        self.fail_in(trial, self.change)
        self.assert_state(shop, *first)

    def test_tried(self):
        shop = self.begun()
        before = self.snapshot(shop)
        told = object()
        self.assertIs(shop.tried(lambda inner: told), told)
        self.assertIs(shop.tried(action=lambda inner: inner), shop)
        self.assertIsNone(shop.tried(lambda inner: None))
        self.assert_state(shop, *before)

        def failing(inner):
            self.change(inner)
            raise Failed()

        for call in (lambda: shop.tried(failing), lambda: shop.tried(action=failing)):
            with self.assertRaises(Failed):
                call()
            self.assert_state(shop, *before)
        self.assertEqual(shop.tried(lambda inner: [self.change(inner), len(inner)]), [None, 7])
        self.assertEqual(len(shop), 7)

    def test_tried_within_tried(self):
        shop = self.begun()
        before = self.snapshot(shop)

        def outer(inner):
            inner.put("c", OVAL)
            inner.tried(lambda deep: deep.undo())
            self.assert_state(inner, *before)
            inner.tried(lambda deep: deep.put("d", EGG))
            return inner.tried(lambda deep: deep.put("B", EGG))

        with self.assertRaises(errors.InvalidName):
            shop.tried(outer)
        self.assert_state(shop, *before)

    def test_two_workshops(self):
        one, two = self.begun(), self.begun()
        before = self.snapshot(one)
        with self.assertRaises(Failed):
            with one.trial(), two.trial():
                self.change(one)
                with self.assertRaises(KeyError):
                    with two.trial():
                        two.drop("b")
                        raise KeyError()
                raise Failed()
        self.assert_state(one, *before)
        self.assert_state(two, *before)


class Model:
    """A workshop told anew: each state is kept whole."""

    def __init__(self):
        self.states = [({}, ())]

    def changed(self, cams, wishes):
        """Whether all wishes hold then; if so, it is a change."""
        if not all(is_kept(wish, cams) for wish in wishes):
            return False
        self.states.append((cams, wishes))
        return True

    def put(self, name, cam):
        cams, wishes = self.states[-1]
        return self.changed({**cams, name: cam}, wishes)

    def drop(self, name):
        cams, wishes = self.states[-1]
        if name not in cams or any(name in wish[1:3] for wish in wishes):
            return False
        return self.changed({kept: cam for kept, cam in cams.items() if kept != name}, wishes)

    def wish(self, wish):
        cams, wishes = self.states[-1]
        names = wish[1:3] if wish[0] in ("under", "alike", "without play") else wish[1:2]
        return all(name in cams for name in names) and self.changed(cams, wishes + (wish,))

    def lift(self, index):
        cams, wishes = self.states[-1]
        return index < len(wishes) and self.changed(cams, wishes[:index] + wishes[index + 1:])

    def undo(self):
        return len(self.states) > 1 and self.states.pop() is not None


class AnyChanges(Shops):
    CAMS = (ROUND_CAM, OVAL, SKEW_OVAL, EGG, EDGE, CRANK, SMALL, made(2), carried(EGG, NORTH))

    def any_step(self, source):
        """A call by its method's name and what it is passed."""
        a, b = source.choice("abc"), source.choice("abc")
        wish = source.choice((("smooth", a), ("turns in", a, source.choice((SQUARE, TRIANGLE, OPEN))),
                              ("foot", a, (-1, 2), HALF), ("breadth", a, ONE, (5, 2)), ("under", a, b), ("alike", a, b),
                              ("without play", a, b, EVEN_ARMS, NORTH)))
        return source.choice((("put", (a, source.choice(self.CAMS))), ("put", (b, source.choice(self.CAMS))),
                              ("wish", (wish,)), ("wish", (wish,)), ("drop", (a,)), ("lift", (source.randint(0, 3),)),
                              ("undo", ())))

    def step(self, shop, model, source):
        method, told = self.any_step(source)
        try:
            self.assertIsNone(getattr(shop, method)(*told))
            is_done = True
        except errors.CamError:
            is_done = False
        self.assertIs(getattr(model, method)(*told), is_done)
        return is_done

    def test_many_steps(self):
        source, done = Random(71), []
        for _ in range(20):
            shop, model = Workshop(), Model()
            for _ in range(30):
                done.append(self.step(shop, model, source))
                self.assertEqual(({name: shop.named(name) for name in shop.names}, shop.wishes), model.states[-1])
                self.assertEqual(len(shop), len(model.states) - 1)
        self.assertGreater(min(done.count(True), done.count(False)), 100)

    def test_many_steps_in_trials(self):
        source = Random(72)
        for _ in range(15):
            shop, model = Workshop(), Model()
            for _ in range(6):
                states = list(model.states)
                is_failing = source.random() < 0.5
                try:
                    with shop.trial():
                        for _ in range(6):
                            self.step(shop, model, source)
                        if is_failing:
                            raise Failed()
                except Failed:
                    model.states = states
                self.assertEqual(({name: shop.named(name) for name in shop.names}, shop.wishes), model.states[-1])
                self.assertEqual(len(shop), len(model.states) - 1)
            while len(shop):
                shop.undo()
                model.undo()
                self.assertEqual(({name: shop.named(name) for name in shop.names}, shop.wishes), model.states[-1])


if __name__ == "__main__":
    unittest.main()
