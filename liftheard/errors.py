"""The errors of the package."""


class LiftError(ValueError):
    """The base class of all errors of the package."""


class InvalidHouse(LiftError):
    """A house cannot be: a gap or a bell is wrong."""

    def __init__(self, part, index):
        super().__init__(f"item {index} of the {part} is wrong")
        self.part = part
        self.index = index


class UnknownFloor(LiftError):
    """A house does not have a floor."""


class InvalidLog(LiftError):
    """A row of a log cannot be in a house."""

    def __init__(self, index):
        super().__init__(f"row {index} of the log is wrong")
        self.index = index


class InvalidNumber(LiftError):
    """A number is not in its range."""


class NoWay(LiftError):
    """The lift cannot have gone in any way."""


class InvalidRiders(LiftError):
    """A rider cannot ride in a house, or is one too many."""

    def __init__(self, index):
        super().__init__(f"rider {index} is wrong")
        self.index = index


class InvalidCalls(LiftError):
    """A call cannot be."""

    def __init__(self, index):
        super().__init__(f"call {index} is wrong")
        self.index = index


class UnknownRule(LiftError):
    """There is no rule of this name."""


class TooMany(LiftError):
    """Something is given, or found, more often than it may be."""


class InvalidNights(LiftError):
    """The calls or the log of a night cannot be."""

    def __init__(self, index):
        super().__init__(f"night {index} is wrong")
        self.index = index


class NoCall(LiftError):
    """No call is there to be served."""


class InvalidName(LiftError):
    """A mark cannot have this name."""


class UnknownMark(LiftError):
    """There is no mark of this name."""


class InvalidOperation(LiftError):
    """An operation of a list cannot be."""

    def __init__(self, index):
        super().__init__(f"operation {index} is wrong")
        self.index = index


class InvalidText(LiftError):
    """A word of a text is wrong, superfluous or missing."""

    def __init__(self, row, word):
        super().__init__(f"word {word} of row {row} is wrong")
        self.row = row
        self.word = word


class DecodeError(LiftError):
    """An item of an encoded log is wrong, superfluous or missing."""

    def __init__(self, offset):
        super().__init__(f"item {offset} is wrong")
        self.offset = offset


class DaybookError(LiftError):
    """A word of a daybook is wrong, superfluous or missing, or an entry raises an error."""

    def __init__(self, row, word):
        super().__init__(f"word {word} of row {row} of the daybook is wrong")
        self.row = row
        self.word = word
