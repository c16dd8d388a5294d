"""The errors of the package: all stand under CamError, each of them alone.

Errors with an attribute have no base class in common but CamError, because
each class stands under it directly: so each one keeps its attribute itself.
"""


class CamError(ValueError):
    """The base of all errors of this package."""


class InvalidFraction(CamError):
    """What was passed is no fraction."""

    def __init__(self, given):
        self.given = given


class InvalidTurn(CamError):
    """What was passed is no turn."""

    def __init__(self, given):
        self.given = given


class InvalidWave(CamError):
    """What was passed is no wave."""

    def __init__(self, given):
        self.given = given


class InvalidCam(CamError):
    """What was passed is no cam."""

    def __init__(self, given):
        self.given = given


class InvalidPlace(CamError):
    """What was passed is no pair of fractions."""

    def __init__(self, given):
        self.given = given


class InvalidNumber(CamError):
    """What was passed is no whole number within the bounds."""

    def __init__(self, given):
        self.given = given


class InvalidIndex(CamError):
    """What was passed is no index of what is kept or counted."""

    def __init__(self, given):
        self.given = given


class InvalidGap(CamError):
    """What was passed is no gap, a fraction above 0."""

    def __init__(self, given):
        self.given = given


class InvalidSpring(CamError):
    """What was passed is no spring."""

    def __init__(self, given):
        self.given = given


class InvalidSquare(CamError):
    """What was passed is no square of a speed, a fraction from 0 on."""

    def __init__(self, given):
        self.given = given


class InvalidFrame(CamError):
    """What was passed is no frame."""

    def __init__(self, given):
        self.given = given


class InvalidDistance(CamError):
    """What was passed is no distance, a fraction above 0."""

    def __init__(self, given):
        self.given = given


class InvalidKnot(CamError):
    """What was passed is no knot of the frame."""

    def __init__(self, given):
        self.given = given


class InvalidHarmonic(CamError):
    """What was passed is no number of a harmonic."""

    def __init__(self, given):
        self.given = given


class InvalidArms(CamError):
    """What was passed is no pair of arms."""

    def __init__(self, given):
        self.given = given


class InvalidName(CamError):
    """What was passed is no name for a cam."""

    def __init__(self, given):
        self.given = given


class InvalidWish(CamError):
    """What was passed is no wish."""

    def __init__(self, given):
        self.given = given


class InvalidPhrase(CamError):
    """What was passed is no line that a console takes."""

    def __init__(self, given):
        self.given = given


class UnknownName(CamError):
    """What was passed is no name that the workshop knows."""

    def __init__(self, given):
        self.given = given


class NotAWorkshop(CamError):
    """What was passed is no workshop."""

    def __init__(self, given):
        self.given = given


class HighBelowLow(CamError):
    """The high bound that was passed is below the low one."""

    def __init__(self, given):
        self.given = given


class InvalidTurns(CamError):
    """What was passed is no tuple of turns."""

    def __init__(self, index):
        self.index = index


class InvalidFrames(CamError):
    """What was passed is no tuple of one to six frames."""

    def __init__(self, index):
        self.index = index


class InvalidHarmonics(CamError):
    """What was passed is no ascending tuple of one to six harmonics."""

    def __init__(self, index):
        self.index = index


class InvalidBox(CamError):
    """What was passed is no box."""

    def __init__(self, index):
        self.index = index


class InvalidWeights(CamError):
    """What was passed is no tuple of weights of the box."""

    def __init__(self, index):
        self.index = index


class InUse(CamError):
    """The name stands in a wish."""

    def __init__(self, index):
        self.index = index


class Broken(CamError):
    """A wish would not hold."""

    def __init__(self, index):
        self.index = index


class NotPressed(CamError):
    """The foot is not kept on the cam even at rest."""


class NotSmooth(CamError):
    """The cam is not smooth."""


class NotKept(CamError):
    """The foot is not kept on the cam at this speed."""


class IsPoint(CamError):
    """The cam is a point."""


class NotAdded(CamError):
    """The wave is not added of the box."""


class NothingToUndo(CamError):
    """There is no change left to take back."""
