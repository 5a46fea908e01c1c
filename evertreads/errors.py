"""The errors that the package raises, each with what was wrong."""


class WrongValue(ValueError):
    """A value that may not be passed."""

    def __init__(self):
        pass


class NotAWalker(WrongValue):
    """What is no walker was passed as one."""

    def __init__(self, given):
        self.given = given


class InvalidRow(WrongValue):
    """This is no row of orders."""

    def __init__(self, given):
        self.given = given


class InvalidSquare(WrongValue):
    """This is no square."""

    def __init__(self, given):
        self.given = given


class InvalidWay(WrongValue):
    """This is none of the four ways."""

    def __init__(self, given):
        self.given = given


class InvalidTime(WrongValue):
    """This is no time."""

    def __init__(self, given):
        self.given = given


class InvalidCount(WrongValue):
    """This is no count that may be asked for."""

    def __init__(self, given):
        self.given = given


class InvalidMove(WrongValue):
    """This is no integer by which a walker can be moved."""

    def __init__(self, given):
        self.given = given


class InvalidPeriod(WrongValue):
    """This is no period."""

    def __init__(self, given):
        self.given = given


class InvalidMarks(WrongValue):
    """These are no marks by the period beside them."""

    def __init__(self, given):
        self.given = given


class InvalidName(WrongValue):
    """This is no name."""

    def __init__(self, given):
        self.given = given


class InvalidClaim(WrongValue):
    """This has none of the forms of a claim."""

    def __init__(self, given):
        self.given = given


class InvalidIndex(WrongValue):
    """There is no claim with this index."""

    def __init__(self, given):
        self.given = given


class InvalidText(WrongValue):
    """This is no line that the console knows."""

    def __init__(self, given):
        self.given = given


class InvalidParts(WrongValue):
    """The part with this index is not valid."""

    def __init__(self, index):
        self.index = index


class InvalidDeeds(WrongValue):
    """The deed with this index is not valid."""

    def __init__(self, index):
        self.index = index


class WrongName(LookupError):
    """A name that cannot be used so."""

    def __init__(self):
        pass


class UnknownName(WrongName):
    """The yard has no such name."""

    def __init__(self, given):
        self.given = given


class InUse(WrongName):
    """The claim with this index still names the walker."""

    def __init__(self, index):
        self.index = index


class NoAnswer(ArithmeticError):
    """A call that cannot be met as things are."""

    def __init__(self):
        pass


class Broken(NoAnswer):
    """The claim with this index would fail."""

    def __init__(self, index):
        self.index = index


class NothingToUndo(NoAnswer):
    """No change is left that can be taken back."""
