"""The errors of the package, each of which is a RunsError and a ValueError."""


class RunsError(ValueError):
    """What all errors of the package have in common."""


class NoRow(RunsError):
    """What was passed is no row, or has letters that are not at hand."""

    def __init__(self):
        pass


class NoNumber(RunsError):
    """What was passed is no integer within its bounds."""

    def __init__(self):
        pass


class NoRoot(RunsError):
    """The net of the row is empty and so has no root."""

    def __init__(self):
        pass


class NoDeeds(RunsError):
    """What was passed are no deeds."""

    def __init__(self):
        pass


class NoRows(RunsError):
    """What was passed is no list or tuple of the rows asked for."""

    def __init__(self):
        pass


class BadProgram(RunsError):
    """A part of a program is not as told."""

    def __init__(self, part):
        self.part = part


class NoPlan(RunsError):
    """What was passed is no plan of the program."""

    def __init__(self):
        pass


class TooLong(RunsError):
    """Something has more letters than most."""

    def __init__(self, most):
        self.most = most


class TooLarge(RunsError):
    """Something has more states or standings than most."""

    def __init__(self, most):
        self.most = most


class TooMany(RunsError):
    """There are more of something than most."""

    def __init__(self, most):
        self.most = most


class TooDeep(RunsError):
    """A program has a greater depth than most."""

    def __init__(self, most):
        self.most = most


class OtherDeeds(RunsError):
    """Two things that go together have unlike deeds."""

    def __init__(self):
        pass


class BadPrices(RunsError):
    """What was passed are no prices for the letters at hand."""

    def __init__(self):
        pass


class BadWorld(RunsError):
    """A part of a world is not as told."""

    def __init__(self, part):
        self.part = part


class NoStanding(RunsError):
    """What was passed is no standing of the world."""

    def __init__(self):
        pass


class NoDenied(RunsError):
    """What was passed is no list or tuple of rows to be denied."""

    def __init__(self):
        pass


class NoWeights(RunsError):
    """What was passed are no weights for the deeds."""

    def __init__(self):
        pass


class NoGoals(RunsError):
    """What was passed is no ascending tuple of standings."""

    def __init__(self):
        pass


class NoFlag(RunsError):
    """What was passed is neither True nor False."""

    def __init__(self):
        pass


class Clash(RunsError):
    """A report contradicts what the reports before it show."""

    def __init__(self):
        pass


class NothingDone(RunsError):
    """There is nothing left to take back."""

    def __init__(self):
        pass


class BadText(RunsError):
    """A line of a text is not as told."""

    def __init__(self, line):
        self.line = line


class NoLetter(RunsError):
    """What was passed is no letter over the deeds."""

    def __init__(self):
        pass


class NoLine(RunsError):
    """What was passed has none of the forms of a line."""

    def __init__(self):
        pass


class NoName(RunsError):
    """Nothing is kept under a name."""

    def __init__(self, name):
        self.name = name
