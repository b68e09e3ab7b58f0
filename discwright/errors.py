"""The errors of the program: each kind of failure has its own class."""


class DiscError(ValueError):
    """The base class of all errors of the program."""


class DifferentLengths(DiscError):
    """Lists have different lengths, or there is none."""


class InvalidRead(DiscError):
    """A read breaks point 5."""


class InvalidCell(DiscError):
    """The length of a cell is not from 10 to 1000."""


class InvalidSector(DiscError):
    """A sector breaks point 13 or has another number of data."""

    def __init__(self, index):
        super().__init__(f"the sector with the index {index} is not valid")
        self.index = index


class InvalidImage(DiscError):
    """An image breaks point 18."""


class BadBytes(DiscError):
    """Bytes are refused."""


class InvalidDisc(DiscError):
    """A block disc or a geometry breaks point 28, or does not fit the other."""


class InvalidFiles(DiscError):
    """Files cannot be put on such a disc."""


class NoFileSystem(DiscError):
    """The head of a file system is missing or not right."""


class InvalidPlan(DiscError):
    """A parity plan breaks point 40."""


class InvalidUnknowns(DiscError):
    """Places of unknown bits are not ascending, out of range, or more than 24."""


class InvalidCase(DiscError):
    """What is known of a damaged disc does not fit together."""


class NotTaken(DiscError):
    """A repair of a ledger is not taken."""

    def __init__(self, index):
        super().__init__(f"the repair with the index {index} is not taken")
        self.index = index


class InvalidDump(DiscError):
    """A dump has a wrong length, or dumps have different ones."""


class NoHeader(DiscError):
    """A cartridge has no right header, or another number of bytes behind it."""


class InvalidPatch(DiscError):
    """A patch breaks point 50."""


class DoesNotFit(DiscError):
    """The old bytes of a change do not stand there, or its offset is too great."""

    def __init__(self, index):
        super().__init__(f"the change with the index {index} does not fit")
        self.index = index


class InvalidItem(DiscError):
    """A name, an item or a note is not valid, a name is there already, or it is not there."""


class InvalidTask(DiscError):
    """The first line of a task is not of the form, or the geometry is not valid."""


class InvalidLine(DiscError):
    """A line of a text is not of its form; lines are counted from 1."""

    def __init__(self, line):
        super().__init__(f"the line {line} is not valid")
        self.line = line
