"""The classes of errors: their attributes, and what they stand under."""

import unittest

from framecams import errors
from tests.values import Hostile, nested

GIVEN = """InvalidFraction InvalidTurn InvalidWave InvalidCam InvalidPlace InvalidNumber InvalidIndex InvalidGap
InvalidSpring InvalidSquare InvalidFrame InvalidDistance InvalidKnot InvalidHarmonic InvalidArms InvalidName
InvalidWish InvalidPhrase UnknownName NotAWorkshop HighBelowLow""".split()
INDEX = "InvalidTurns InvalidFrames InvalidHarmonics InvalidBox InvalidWeights InUse Broken".split()
BARE = "NotPressed NotSmooth NotKept IsPoint NotAdded NothingToUndo".split()
KEPT = (None, True, 0, -3, 10 ** 5000, "", "text", b"x", (), (1, 2), nested(1, 14), [1], {1: 2}, Hostile(), len, ValueError)


class Errors(unittest.TestCase):
    def test_all_classes_are_there_and_no_others(self):
        found = [name for name, value in vars(errors).items() if isinstance(value, type)]
        self.assertEqual(sorted(found), sorted(["CamError"] + GIVEN + INDEX + BARE))

    def test_base(self):
        self.assertEqual(errors.CamError.__mro__, (errors.CamError,) + ValueError.__mro__)
        self.assertEqual(vars(errors.CamError()), {})

    def test_each_stands_under_the_base_alone(self):
        for name in GIVEN + INDEX + BARE:
            with self.subTest(name=name):
                found = getattr(errors, name)
                self.assertEqual(found.__mro__, (found,) + errors.CamError.__mro__)
                self.assertEqual((found.__name__, found.__module__), (name, "framecams.errors"))

    def keeps(self, names, kind):
        for name in names:
            for value in KEPT:
                for error in (getattr(errors, name)(value), getattr(errors, name)(**{kind: value})):
                    self.assertEqual(list(vars(error)), [kind], name)
                    self.assertIs(getattr(error, kind), value, name)

    def test_given_is_kept(self):
        self.keeps(GIVEN, "given")

    def test_index_is_kept(self):
        self.keeps(INDEX, "index")

    def test_attributes_must_be_told(self):
        for name in GIVEN + INDEX:
            with self.assertRaises(TypeError):
                getattr(errors, name)()
            with self.assertRaises(TypeError):
                getattr(errors, name)(1, 2)

    def test_without_attributes(self):
        for name in BARE:
            self.assertEqual(vars(getattr(errors, name)()), {}, name)

    def test_they_are_raised_and_caught(self):
        for name in GIVEN + INDEX + BARE:
            error = getattr(errors, name)() if name in BARE else getattr(errors, name)((1, 2))
            for kind in (getattr(errors, name), errors.CamError, ValueError):
                with self.assertRaises(kind) as caught:
                    raise error
                self.assertIs(caught.exception, error)


if __name__ == "__main__":
    unittest.main()
