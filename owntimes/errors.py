"""All errors of the program: three base classes, and under each one its own errors."""


class WrongValue(ValueError):
    """A value that is not as it has to be."""


class InvalidPeriod(WrongValue):
    """A period that is no integer from 1 to 60."""

    def __init__(self, given):
        WrongValue.__init__(self, "no period")
        self.given = given


class InvalidNumber(WrongValue):
    """A number that is no integer within its bounds."""

    def __init__(self, given):
        WrongValue.__init__(self, "no integer within the bounds")
        self.given = given


class InvalidText(WrongValue):
    """A text that is not the text of what is read."""

    def __init__(self, given):
        WrongValue.__init__(self, "no text of what is read")
        self.given = given


class InvalidName(WrongValue):
    """A name that is no letter with up to seven letters or digits behind it."""

    def __init__(self, given):
        WrongValue.__init__(self, "no name")
        self.given = given


class InvalidHands(WrongValue):
    """Hands that are neither an integer from 1 to 4 nor None."""

    def __init__(self, given):
        WrongValue.__init__(self, "no number of hands")
        self.given = given


class InvalidStock(WrongValue):
    """A stock that is no integer from 0 to 5."""

    def __init__(self, given):
        WrongValue.__init__(self, "no stock")
        self.given = given


class InvalidFlag(WrongValue):
    """A flag that is neither True nor False."""

    def __init__(self, given):
        WrongValue.__init__(self, "neither True nor False")
        self.given = given


class InvalidOutlet(WrongValue):
    """An outlet that is no name of a station."""

    def __init__(self, given):
        WrongValue.__init__(self, "no station to be the outlet")
        self.given = given


class InvalidIndex(WrongValue):
    """An index that nothing has."""

    def __init__(self, given):
        WrongValue.__init__(self, "no such index")
        self.given = given


class InvalidTimes(WrongValue):
    """Times that are no dict from tasks to integers from 0 on."""

    def __init__(self, given):
        WrongValue.__init__(self, "no times")
        self.given = given


class InvalidClaim(WrongValue):
    """A claim that is not of the form of one."""

    def __init__(self, given):
        WrongValue.__init__(self, "no claim")
        self.given = given


class NotLags(WrongValue):
    """An operand that is no lag set."""

    def __init__(self, given):
        WrongValue.__init__(self, "no lag set")
        self.given = given


class NotALine(WrongValue):
    """A value that is no line where one is asked for."""

    def __init__(self, given):
        WrongValue.__init__(self, "no line")
        self.given = given


class NotALink(WrongValue):
    """A value that is no link where one is asked for."""

    def __init__(self, given):
        WrongValue.__init__(self, "no link")
        self.given = given


class InvalidNumbers(WrongValue):
    """Numbers that are no tuple of integers within their bounds."""

    def __init__(self, index):
        WrongValue.__init__(self, "no tuple of integers within the bounds")
        self.index = index


class InvalidStations(WrongValue):
    """Stations that cannot be those of a line."""

    def __init__(self, index):
        WrongValue.__init__(self, "no stations of a line")
        self.index = index


class InvalidLinks(WrongValue):
    """Links that cannot be those of a line."""

    def __init__(self, index):
        WrongValue.__init__(self, "no links of a line")
        self.index = index


class InvalidTasks(WrongValue):
    """Tasks that are no tuple of different tasks of the line."""

    def __init__(self, index):
        WrongValue.__init__(self, "no different tasks of the line")
        self.index = index


class InvalidNames(WrongValue):
    """Names that are no tuple of different timed stations."""

    def __init__(self, index):
        WrongValue.__init__(self, "no different timed stations")
        self.index = index


class WrongName(LookupError):
    """A name that does not fit."""


class UnknownName(WrongName):
    """A name that nothing has."""

    def __init__(self, given):
        WrongName.__init__(self, "no such name")
        self.given = given


class Taken(WrongName):
    """A name that is taken already."""

    def __init__(self, given):
        WrongName.__init__(self, "the name is taken")
        self.given = given


class InUse(WrongName):
    """A name that a claim speaks of."""

    def __init__(self, index):
        WrongName.__init__(self, "a claim speaks of the name")
        self.index = index


class NoAnswer(ArithmeticError):
    """A question that has no answer."""


class TooMany(NoAnswer):
    """A result that would be larger than the limit."""

    def __init__(self, limit):
        NoAnswer.__init__(self, "the result is above the limit")
        self.limit = limit


class Stuck(NoAnswer):
    """A line with a ring of the stock 0."""

    def __init__(self, ring):
        NoAnswer.__init__(self, "the line is stuck")
        self.ring = ring


class EarlyLink(NoAnswer):
    """A line with an early link, which cannot be turned."""

    def __init__(self, index):
        NoAnswer.__init__(self, "an early link cannot be turned")
        self.index = index


class NothingToUndo(NoAnswer):
    """A book without a change that can be taken back."""

    def __init__(self):
        NoAnswer.__init__(self, "there is no change to take back")


class NotAsked(NoAnswer):
    """A claim that cannot be asked, as a line in it is stuck."""

    def __init__(self, index):
        NoAnswer.__init__(self, "the claim cannot be asked")
        self.index = index


class Broken(NoAnswer):
    """A claim that does not hold."""

    def __init__(self, index, shown):
        NoAnswer.__init__(self, "the claim does not hold")
        self.index = index
        self.shown = shown
