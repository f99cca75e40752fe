"""All the errors that the package raises; their attributes are what their constructors take."""


class LaneError(ValueError):
    """A value that was passed is not valid."""


class InvalidCountry(LaneError):
    def __init__(self, value):
        self.value = value


class InvalidGate(LaneError):
    def __init__(self, value):
        self.value = value


class InvalidMany(LaneError):
    def __init__(self, value):
        self.value = value


class InvalidPlace(LaneError):
    def __init__(self, value):
        self.value = value


class InvalidStand(LaneError):
    def __init__(self, value):
        self.value = value


class InvalidWeb(LaneError):
    def __init__(self, value):
        self.value = value


class InvalidYard(LaneError):
    def __init__(self, value):
        self.value = value


class InvalidBackward(LaneError):
    def __init__(self, value):
        self.value = value


class InvalidBook(LaneError):
    def __init__(self, value):
        self.value = value


class InvalidBooks(LaneError):
    def __init__(self, value):
        self.value = value


class InvalidCart(LaneError):
    def __init__(self, value):
        self.value = value


class InvalidClaim(LaneError):
    def __init__(self, value):
        self.value = value


class InvalidCommand(LaneError):
    def __init__(self, value):
        self.value = value


class InvalidDoor(LaneError):
    def __init__(self, value):
        self.value = value


class InvalidEast(LaneError):
    def __init__(self, value):
        self.value = value


class InvalidEnd(LaneError):
    def __init__(self, value):
        self.value = value


class InvalidFilling(LaneError):
    def __init__(self, value):
        self.value = value


class InvalidForward(LaneError):
    def __init__(self, value):
        self.value = value


class InvalidGates(LaneError):
    def __init__(self, value):
        self.value = value


class InvalidGoal(LaneError):
    def __init__(self, value):
        self.value = value


class InvalidKind(LaneError):
    def __init__(self, value):
        self.value = value


class InvalidKnown(LaneError):
    def __init__(self, value):
        self.value = value


class InvalidKnowns(LaneError):
    def __init__(self, value):
        self.value = value


class InvalidLanes(LaneError):
    def __init__(self, value):
        self.value = value


class InvalidLines(LaneError):
    def __init__(self, position):
        self.position = position


class InvalidLoad(LaneError):
    def __init__(self, value):
        self.value = value


class InvalidMends(LaneError):
    def __init__(self, value):
        self.value = value


class InvalidOrigin(LaneError):
    def __init__(self, value):
        self.value = value


class InvalidPaper(LaneError):
    def __init__(self, value):
        self.value = value


class InvalidPlaces(LaneError):
    def __init__(self, value):
        self.value = value


class InvalidPost(LaneError):
    def __init__(self, value):
        self.value = value


class InvalidPrices(LaneError):
    def __init__(self, value):
        self.value = value


class InvalidSide(LaneError):
    def __init__(self, value):
        self.value = value


class InvalidStart(LaneError):
    def __init__(self, value):
        self.value = value


class InvalidStep(LaneError):
    def __init__(self, value):
        self.value = value


class InvalidSteps(LaneError):
    def __init__(self, value):
        self.value = value


class InvalidTarget(LaneError):
    def __init__(self, value):
        self.value = value


class InvalidText(LaneError):
    def __init__(self, position):
        self.position = position


class InvalidWest(LaneError):
    def __init__(self, value):
        self.value = value


class InvalidWord(LaneError):
    def __init__(self, value):
        self.value = value


class MissingError(LookupError):
    """What was asked for is not there."""


class NoCart(MissingError):
    def __init__(self, value):
        self.value = value


class UnknownLabel(MissingError):
    def __init__(self, value):
        self.value = value


class UnknownName(MissingError):
    def __init__(self, value):
        self.value = value


class StateError(RuntimeError):
    """As things are it can't be done."""


class CommandFailed(StateError):
    def __init__(self, position):
        self.position = position


class Contrary(StateError):
    """The contrary is sure already."""


class LabelTaken(StateError):
    def __init__(self, label):
        self.label = label


class NameTaken(StateError):
    def __init__(self, name):
        self.name = name


class NoPost(StateError):
    """A web without a post."""


class NoneThere(StateError):
    """There is none."""


class NotALine(StateError):
    """The web is not a line."""


class NotBounded(StateError):
    """The web is not bounded."""


class NothingToRedo(StateError):
    """No deed was taken back last."""


class NothingToUndo(StateError):
    """No deed is left to take back."""


class Refused(StateError):
    """The keeper lets nobody in."""


class StepFails(StateError):
    def __init__(self, position):
        self.position = position


class LimitError(ArithmeticError):
    """A limit is passed."""


class TooMany(LimitError):
    def __init__(self, what, limit):
        self.what = what
        self.limit = limit
