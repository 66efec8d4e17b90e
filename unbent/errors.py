"""The errors of the program: one class for each kind of failure, all directly below UnbentError."""


class UnbentError(ValueError):
    """Anything that the program refuses."""


class TextError(UnbentError):
    """A line of a text is incorrect; lines count from 1."""

    def __init__(self, line, reason):
        super().__init__(f"line {line}: {reason}")
        self.line = line
        self.reason = reason


class TooLarge(UnbentError):
    """Something is beyond a limit; the attribute says which one."""

    def __init__(self, limit):
        super().__init__(f"too large: {limit}")
        self.limit = limit


class InvalidGame(UnbentError):
    """The parts of a game do not make a game."""

    def __init__(self, reason):
        super().__init__(f"no game: {reason}")
        self.reason = reason


class InvalidProgram(UnbentError):
    """The parts of a linear program do not make a program."""

    def __init__(self, reason):
        super().__init__(f"no program: {reason}")
        self.reason = reason


class InvalidSystem(UnbentError):
    """Rows and bounds do not make a system of equations."""

    def __init__(self, reason):
        super().__init__(f"no system: {reason}")
        self.reason = reason


class InvalidThresholds(UnbentError):
    """The parts of a rule of one number do not make such a rule."""

    def __init__(self, reason):
        super().__init__(f"no rule of one number: {reason}")
        self.reason = reason


class InvalidBidders(UnbentError):
    """A list of bidders is not as it must be."""

    def __init__(self, reason):
        super().__init__(f"no bidders: {reason}")
        self.reason = reason


class InvalidMenu(UnbentError):
    """The lists of a menu do not fit together."""

    def __init__(self, reason):
        super().__init__(f"no menu: {reason}")
        self.reason = reason


class InvalidWishes(UnbentError):
    """A wish list, or a list that belongs to it, is not as it must be."""

    def __init__(self, reason):
        super().__init__(f"no wishes: {reason}")
        self.reason = reason


class InvalidNumber(UnbentError):
    """A text is not the text of a fraction."""

    def __init__(self, text):
        super().__init__(f"no number: {text}")
        self.text = text


class UnknownProfile(UnbentError):
    """A tuple is no profile of the game."""

    def __init__(self, profile):
        super().__init__("no profile of the game")
        self.profile = profile


class WrongKey(UnbentError):
    """A key is not the key of the member."""

    def __init__(self, member):
        super().__init__("not the key of the member")
        self.member = member


class UnknownMachine(UnbentError):
    """There is no machine of this number."""

    def __init__(self, machine):
        super().__init__("no such machine")
        self.machine = machine


class MachineStopped(UnbentError):
    """The machine is not running."""

    def __init__(self, machine):
        super().__init__("the machine is stopped")
        self.machine = machine


class UnknownLetter(UnbentError):
    """There is no letter of this number."""

    def __init__(self, number):
        super().__init__("no such letter")
        self.number = number


class ZeroDenominator(UnbentError):
    """A number was to be divided by 0."""


class NotHonest(UnbentError):
    """There are no honest payments."""


class NotPlain(UnbentError):
    """A rule draws lots where it must not."""


class HasGoodRule(UnbentError):
    """A game that should have no good rule may have one."""


class InvalidTree(UnbentError):
    """A list of nodes is no question tree for the game."""


class InvalidBox(UnbentError):
    """A list is no box of the game."""


class InvalidClock(UnbentError):
    """The parts of a clock auction are not as they must be."""


class InvalidLot(UnbentError):
    """The chances of a lot are not as they must be."""


class InvalidTicket(UnbentError):
    """A fraction is no ticket."""


class InvalidCount(UnbentError):
    """A count is below 0."""


class InvalidMatrix(UnbentError):
    """A matrix is not doubly stochastic."""


class InvalidCosts(UnbentError):
    """The costs of groups are not as they must be."""


class InvalidKeys(UnbentError):
    """The keys of the members are not as they must be."""


class InvalidContent(UnbentError):
    """A value is no content."""


class InvalidRound(UnbentError):
    """A number of a round is not as it must be."""


class InvalidReport(UnbentError):
    """What a party reports is not as it must be."""


class InvalidPlay(UnbentError):
    """A play is not as it must be."""


class InvalidLine(UnbentError):
    """A string is no line."""


class InvalidRecord(UnbentError):
    """A string is no record."""
