"""All refusals. Those of PaceError are made of a text; those of WalkError keep what was handed in."""


class PaceError(ValueError):
    """What is handed in is not such a thing, or cannot be done."""


class NoProgram(PaceError):
    """It is no program."""


class NoInput(PaceError):
    """It is no input of this program or code."""


class NoCode(PaceError):
    """It is no code."""


class NoMachine(PaceError):
    """It is no machine."""


class NoStore(PaceError):
    """It is no near store, or no lines that a miss may bring."""


class NoSpot(PaceError):
    """It is no spot of this code on this machine."""


class NoChoice(PaceError):
    """The spot has no such choice."""


class NoMost(PaceError):
    """It is no number of spots to stop at."""


class Unlike(PaceError):
    """The two codes have unlike asks."""


class TooWide(PaceError):
    """There are more spots, or more inputs, than are looked at."""


class TooLong(PaceError):
    """There would be more rows than a code may have."""


class NoSheet(PaceError):
    """It is no sheet, or none that holds."""


class NoPass(PaceError):
    """The pass cannot be done there."""


class NoPasses(PaceError):
    """It is no row of passes."""


class NoSeam(PaceError):
    """It is no seam, or no later one."""


class NoShare(PaceError):
    """It is no share."""


class NoWorks(PaceError):
    """They are no works of one machine."""


class NoDeed(PaceError):
    """It is no deed, or there is none to undo."""


class NoName(PaceError):
    """It is no name."""


class TooMany(PaceError):
    """There would be more works than a yard may have."""


class NoText(PaceError):
    """It is not so written."""


class NoLine(PaceError):
    """The desk knows no such line."""


class WalkError(LookupError):
    """There is nothing at the place, or by the number or name, that was handed in."""


class NoWalk(WalkError):
    """It is no walk: at is the first place that is not as it must be."""

    def __init__(self, at):
        WalkError.__init__(self, "it is no walk")
        self.at = at


class NoRow(WalkError):
    """The code has no row of this number."""

    def __init__(self, number):
        WalkError.__init__(self, "there is no row of this number")
        self.number = number


class NoNumber(WalkError):
    """It is no number of the kind that is asked for."""

    def __init__(self, number):
        WalkError.__init__(self, "there is none of this number")
        self.number = number


class NoWork(WalkError):
    """There is no work of this name."""

    def __init__(self, name):
        WalkError.__init__(self, "there is no work of this name")
        self.name = name
