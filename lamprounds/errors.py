"""The errors that calls raise, each under its one base class."""


class WrongValue(ValueError):
    """A value that was passed is not one that is asked for."""


class InvalidText(WrongValue):
    """A value is not the text of what is to be read."""

    def __init__(self, given):
        self.given = given


class InvalidName(WrongValue):
    """A value is no name."""

    def __init__(self, given):
        self.given = given


class InvalidIndex(WrongValue):
    """A value is no index of what is there."""

    def __init__(self, given):
        self.given = given


class InvalidLevels(WrongValue):
    """A value is not 2, 3, 5 or 7."""

    def __init__(self, given):
        self.given = given


class InvalidNumber(WrongValue):
    """A value is no integer, or not one that is asked for."""

    def __init__(self, given):
        self.given = given


class InvalidWish(WrongValue):
    """A value is no wish."""

    def __init__(self, given):
        self.given = given


class NotRound(WrongValue):
    """A value is no round."""

    def __init__(self, given):
        self.given = given


class NotLot(WrongValue):
    """A value is no lot."""

    def __init__(self, given):
        self.given = given


class InvalidLamps(WrongValue):
    """A value is no picture with few enough lamps."""

    def __init__(self, index):
        self.index = index


class InvalidRounds(WrongValue):
    """A value is no tuple of rounds that make a lot."""

    def __init__(self, index):
        self.index = index


class InvalidSteps(WrongValue):
    """A value is no row of steps that is short enough."""

    def __init__(self, index):
        self.index = index


class InvalidPlan(WrongValue):
    """A value is no plan of the lot."""

    def __init__(self, index):
        self.index = index


class InvalidChanges(WrongValue):
    """A value is no tuple of changes of the lot."""

    def __init__(self, index):
        self.index = index


class InvalidWishes(WrongValue):
    """A value is no tuple of wishes."""

    def __init__(self, index):
        self.index = index


class WrongName(LookupError):
    """A name does not stand for what is asked for."""


class UnknownName(WrongName):
    """A library has nothing under this name."""

    def __init__(self, given):
        self.given = given


class InUse(WrongName):
    """A name is asked for by a wish."""

    def __init__(self, index):
        self.index = index


class NotPossible(ArithmeticError):
    """The values are right each, but cannot be taken together."""


class OtherLevels(NotPossible):
    """Two things have unlike levels."""

    def __init__(self, given):
        self.given = given


class TooMany(NotPossible):
    """There are more lamps or steps than are returned."""

    def __init__(self, given):
        self.given = given


class TooFar(NotPossible):
    """A round is not near."""

    def __init__(self, given):
        self.given = given


class NothingToUndo(NotPossible):
    """There is nothing that can be taken back."""


class Broken(NotPossible):
    """A wish does not hold."""

    def __init__(self, index):
        self.index = index
