"""The errors of the package: each is raised for one kind of failure and keeps what it is made with."""


class ScrewError(ValueError):
    """What all errors of this package are."""


class InvalidFraction(ScrewError):
    def __init__(self, given):
        super().__init__("not a fraction")
        self.given = given


class InvalidNumber(ScrewError):
    def __init__(self, given):
        super().__init__("not a whole number that fits here")
        self.given = given


class InvalidIndex(ScrewError):
    def __init__(self, given):
        super().__init__("no index here")
        self.given = given


class InvalidTriple(ScrewError):
    def __init__(self, given):
        super().__init__("not a triple")
        self.given = given


class InvalidDirection(ScrewError):
    def __init__(self, given):
        super().__init__("not a direction")
        self.given = given


class InvalidTurning(ScrewError):
    def __init__(self, given):
        super().__init__("not a turning")
        self.given = given


class InvalidPlacing(ScrewError):
    def __init__(self, given):
        super().__init__("not a placing")
        self.given = given


class InvalidScrew(ScrewError):
    def __init__(self, given):
        super().__init__("not a screw that fits here")
        self.given = given


class InvalidSystem(ScrewError):
    def __init__(self, given):
        super().__init__("not the base of a system")
        self.given = given


class InvalidTouch(ScrewError):
    def __init__(self, given):
        super().__init__("not a touch")
        self.given = given


class InvalidMark(ScrewError):
    def __init__(self, given):
        super().__init__("not a mark")
        self.given = given


class InvalidJoint(ScrewError):
    def __init__(self, given):
        super().__init__("not a joint")
        self.given = given


class InvalidStand(ScrewError):
    def __init__(self, given):
        super().__init__("not a stand")
        self.given = given


class InvalidName(ScrewError):
    def __init__(self, given):
        super().__init__("not a name")
        self.given = given


class InvalidWish(ScrewError):
    def __init__(self, given):
        super().__init__("not a wish")
        self.given = given


class InvalidPhrase(ScrewError):
    def __init__(self, given):
        super().__init__("not a phrase")
        self.given = given


class UnknownName(ScrewError):
    def __init__(self, given):
        super().__init__("a name that is not known here")
        self.given = given


class NotAWorkshop(ScrewError):
    def __init__(self, given):
        super().__init__("not a workshop")
        self.given = given


class TooMany(ScrewError):
    def __init__(self, given):
        super().__init__("too many")
        self.given = given


class InvalidScrews(ScrewError):
    def __init__(self, index):
        super().__init__("not a tuple of screws that fits here")
        self.index = index


class InvalidJig(ScrewError):
    def __init__(self, index):
        super().__init__("not a jig")
        self.index = index


class InvalidLot(ScrewError):
    def __init__(self, index):
        super().__init__("not a lot")
        self.index = index


class InvalidGauge(ScrewError):
    def __init__(self, index):
        super().__init__("not a gauge")
        self.index = index


class InvalidArm(ScrewError):
    def __init__(self, index):
        super().__init__("not an arm")
        self.index = index


class InvalidLegs(ScrewError):
    def __init__(self, index):
        super().__init__("not legs")
        self.index = index


class InvalidWeb(ScrewError):
    def __init__(self, index):
        super().__init__("not a web")
        self.index = index


class InvalidHeap(ScrewError):
    def __init__(self, index):
        super().__init__("not a heap")
        self.index = index


class InvalidCrane(ScrewError):
    def __init__(self, index):
        super().__init__("not a crane")
        self.index = index


class InvalidBody(ScrewError):
    def __init__(self, index):
        super().__init__("not a body")
        self.index = index


class InvalidSprings(ScrewError):
    def __init__(self, index):
        super().__init__("not springs")
        self.index = index


class InUse(ScrewError):
    def __init__(self, index):
        super().__init__("a wish names it")
        self.index = index


class Broken(ScrewError):
    def __init__(self, index):
        super().__init__("a wish would not hold")
        self.index = index


class NoAxis(ScrewError):
    """A screw whose LINE is nought has no axis."""


class Along(ScrewError):
    """Two points or axes that make no single line."""


class NoMoveFits(ScrewError):
    """No move fits the gauge."""


class NothingToUndo(ScrewError):
    """No change is left that could be taken back."""
