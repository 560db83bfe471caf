"""The errors of the program."""


class BarError(ValueError):
    """The base class of all errors that the program raises."""


class InvalidLog(BarError):
    """A log breaks a rule."""


class InvalidPaper(BarError):
    """A paper is none."""


class InvalidDrift(BarError):
    """A drift is none, or is not one that this can be asked of."""


class InvalidBars(BarError):
    """Bars are none."""


class Unexplained(BarError):
    """A log contradicts itself."""


class UnlikeLogs(BarError):
    """Logs do not belong together."""


class NotYesAndNo(BarError):
    """The highest grade is not 1."""


class TooLarge(BarError):
    """There is more of something than the call takes."""


class NothingToUndo(BarError):
    """No change is there to be taken back."""


class NothingToRedo(BarError):
    """No change is there to be restored."""


class UnknownItem(BarError):
    """No item has this name."""

    def __init__(self, name):
        self.name = name


class UnknownJudge(BarError):
    """No judge has this name."""

    def __init__(self, name):
        self.name = name


class NameTaken(BarError):
    """Another one has this name."""

    def __init__(self, name):
        self.name = name


class NameInUse(BarError):
    """An event names what has this name."""

    def __init__(self, name):
        self.name = name


class InvalidPlace(BarError):
    """Nothing that is asked for stands at this place."""

    def __init__(self, place):
        self.place = place


class InvalidGrade(BarError):
    """The grade is none of the log."""

    def __init__(self, grade):
        self.grade = grade


class InvalidNotation(BarError):
    """A line cannot stand where it stands; the lines are counted from 1."""

    def __init__(self, line):
        self.line = line
