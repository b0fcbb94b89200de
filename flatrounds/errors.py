"""The errors of the package, each with the fields that it is made with."""


class RoundError(ValueError):
    """The base of all errors of the package."""

    # Python's own errors take whatever they are passed; those without fields shall take nothing.
    def __init__(self):
        ValueError.__init__(self)


class BadProgram(RoundError):
    """No program: part tells what of it is wrong first."""

    def __init__(self, part):
        self.part = part


class NoPlace(RoundError):
    """No place of the program."""


class NoStatement(RoundError):
    """No statement, or none that can stand there."""


class NoNames(RoundError):
    """Not the names that are asked for."""


class NoInput(RoundError):
    """No input of the program or table."""


class NoMoment(RoundError):
    """No moment of the run."""


class NoTime(RoundError):
    """No time at which the deed is done."""


class NoName(RoundError):
    """No name, or none that is meant here."""


class NoNumber(RoundError):
    """No number, or none that is meant here."""


class NoDeeds(RoundError):
    """No deeds, or deeds with other names."""


class NoPush(RoundError):
    """No push."""


class OtherNames(RoundError):
    """Two pushes of unlike names."""


class NoNumbers(RoundError):
    """Not the numbers that are asked for."""


class BadTable(RoundError):
    """No table: part tells what of it is wrong first, index which row."""

    def __init__(self, part, index):
        self.part = part
        self.index = index


class NoCell(RoundError):
    """No cell of the table."""


class NoStretch(RoundError):
    """No bounds and measures to which the table can be stretched."""


class TooMany(RoundError):
    """More than most cells, registers or results."""

    def __init__(self, most):
        self.most = most


class OtherShape(RoundError):
    """Tables or programs of unlike many numbers or results."""


class NoBounds(RoundError):
    """No bounds, or no measures."""


class NoIndex(RoundError):
    """No index of a result or a number."""


class NotOne(RoundError):
    """More or less than one number or result."""


class NotUnlike(RoundError):
    """A result that is the same for two inputs."""


class NoIndexes(RoundError):
    """No tuple of indexes of results."""


class BadCode(RoundError):
    """No code: part tells what of it is wrong first."""

    def __init__(self, part):
        self.part = part


class NotCode(RoundError):
    """The code of no program: index tells the step from which on."""

    def __init__(self, index):
        self.index = index


class BadAnswer(RoundError):
    """A function's answer that is no tuple of so many numbers: at tells to which probe."""

    def __init__(self, at):
        self.at = at


class Falling(RoundError):
    """A function's results that fall: at tells the probe."""

    def __init__(self, at):
        self.at = at


class NoInputs(RoundError):
    """No list or tuple of inputs."""


class BadText(RoundError):
    """A text that is written wrongly: line tells where, counted from 1, 0 if it is no text."""

    def __init__(self, line):
        self.line = line


class NoLine(RoundError):
    """No line that a desk understands."""


class Unknown(RoundError):
    """A name under which nothing is kept."""

    def __init__(self, name):
        self.name = name


class NothingDone(RoundError):
    """Nothing is left that could be taken back."""
