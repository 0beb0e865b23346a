"""The errors: each one stands under one of three bases, with what it tells as an attribute."""


class WrongValue(ValueError):
    """A value of the wrong kind or form was given."""

    def __init__(self):
        ValueError.__init__(self)


class InvalidNumber(WrongValue):
    """What should be a number, or a number of a told kind, is none."""

    def __init__(self, given):
        self.given = given


class InvalidChance(WrongValue):
    """What should be a tuple of chances with the sum 1 is none."""

    def __init__(self, given):
        self.given = given


class InvalidDraw(WrongValue):
    """What should be a draw is none."""

    def __init__(self, given):
        self.given = given


class InvalidDraws(WrongValue):
    """What should be a tuple of draws is none."""

    def __init__(self, given):
        self.given = given


class InvalidRow(WrongValue):
    """What should be a row of draws is none."""

    def __init__(self, given):
        self.given = given


class InvalidBox(WrongValue):
    """What should be a box is none."""

    def __init__(self, given):
        self.given = given


class InvalidCompany(WrongValue):
    """What should be a company of boxes is none."""

    def __init__(self, given):
        self.given = given


class InvalidOrder(WrongValue):
    """What should be a tuple of all indexes, each once, is none."""

    def __init__(self, given):
        self.given = given


class InvalidWeb(WrongValue):
    """What should be rows of a web are none."""

    def __init__(self, given):
        self.given = given


class InvalidText(WrongValue):
    """What should be a text is none."""

    def __init__(self, given):
        self.given = given


class InvalidPlace(WrongValue):
    """A place is not of the kind that is asked for."""

    def __init__(self, given):
        self.given = given


class InvalidPlan(WrongValue):
    """What should be a plan of a side is none."""

    def __init__(self, given):
        self.given = given


class InvalidSide(WrongValue):
    """What should be a side is none."""

    def __init__(self, given):
        self.given = given


class InvalidShare(WrongValue):
    """What should be a share is none."""

    def __init__(self, given):
        self.given = given


class InvalidBid(WrongValue):
    """What should be a bid is none."""

    def __init__(self, given):
        self.given = given


class InvalidPieces(WrongValue):
    """What should be the pieces of a line is none."""

    def __init__(self, given):
        self.given = given


class InvalidLoose(WrongValue):
    """What should be rows of a loose web are none."""

    def __init__(self, given):
        self.given = given


class InvalidUnknown(WrongValue):
    """What should be numbers of unknown ends is none."""

    def __init__(self, given):
        self.given = given


class InvalidName(WrongValue):
    """What should be a name is none."""

    def __init__(self, given):
        self.given = given


class InvalidClaim(WrongValue):
    """What should be a claim is none."""

    def __init__(self, given):
        self.given = given


class InvalidIndex(WrongValue):
    """What should be an index is none."""

    def __init__(self, given):
        self.given = given


class InvalidLine(WrongValue):
    """What should be a line for the console is none."""

    def __init__(self, given):
        self.given = given


class NotAWeb(WrongValue):
    """What should be a web is none."""

    def __init__(self, given):
        self.given = given


class NotALoose(WrongValue):
    """What should be a loose web is none."""

    def __init__(self, given):
        self.given = given


class NotAnUnknown(WrongValue):
    """What should be an unknown web is none."""

    def __init__(self, given):
        self.given = given


class InvalidDeeds(WrongValue):
    """The deed with this index is none."""

    def __init__(self, index):
        self.index = index


class InvalidLog(WrongValue):
    """The line with this index is none, or its move cannot be made."""

    def __init__(self, index):
        self.index = index


class WrongName(LookupError):
    """Something is named that is not there, or that is still needed."""

    def __init__(self):
        LookupError.__init__(self)


class UnknownPlace(WrongName):
    """It is no place of the web."""

    def __init__(self, given):
        self.given = given


class UnknownName(WrongName):
    """The book does not have this name."""

    def __init__(self, given):
        self.given = given


class InUse(WrongName):
    """The claim with this index needs the name."""

    def __init__(self, index):
        self.index = index


class NoAnswer(ArithmeticError):
    """All values are in form, but what was asked for is not to be had."""

    def __init__(self):
        ArithmeticError.__init__(self)


class Trapped(NoAnswer):
    """The rows have this trap and are no coin rows."""

    def __init__(self, lot):
        self.lot = lot


class NotAChain(NoAnswer):
    """The web has inner places that are no chance places."""


class NotCoins(NoAnswer):
    """The web has an inner place that is no coin."""


class NotParts(NoAnswer):
    """An end has a number below 0 or above 1."""


class NotEnding(NoAnswer):
    """The rows of the web are not ending."""


class NotAnEnd(NoAnswer):
    """The place is no end."""


class NotApart(NoAnswer):
    """Two webs have a place in common."""


class NotStruck(NoAnswer):
    """An arrow of a place that is no chance place leads to the one to strike."""


class TooMixed(NoAnswer):
    """The web has a coin, or both ours and theirs."""


class AtAnEnd(NoAnswer):
    """The place is an end."""


class TooMany(NoAnswer):
    """What was asked for is larger than this limit."""

    def __init__(self, limit):
        self.limit = limit


class IsOver(NoAnswer):
    """The play is at an end."""


class NothingToUndo(NoAnswer):
    """There is nothing that can be taken back."""


class Broken(NoAnswer):
    """The claim with this index would not hold."""

    def __init__(self, index):
        self.index = index
