"""The errors of the package."""


class SafeError(ValueError):
    """An argument that is not as the document describes it."""


class InvalidName(SafeError):
    """Not a name of what is asked for."""

    def __init__(self, value):
        self.value = value


class InvalidNumber(SafeError):
    """Not a number, or not numbers, as asked for."""

    def __init__(self, value):
        self.value = value


class InvalidBody(SafeError):
    """Not a body."""

    def __init__(self, value):
        self.value = value


class InvalidProgram(SafeError):
    """Not a program, or not a part of one."""

    def __init__(self, value):
        self.value = value


class InvalidState(SafeError):
    """Not a state, or not the values of one."""

    def __init__(self, value):
        self.value = value


class InvalidChoice(SafeError):
    """Not a choice that is possible."""

    def __init__(self, value):
        self.value = value


class InvalidCondition(SafeError):
    """Not a condition of the program."""

    def __init__(self, value):
        self.value = value


class InvalidSize(SafeError):
    """Not a size of the program."""

    def __init__(self, value):
        self.value = value


class InvalidPaper(SafeError):
    """Not a paper, or not a part of one."""

    def __init__(self, value):
        self.value = value


class InvalidCommand(SafeError):
    """Not a command of the console."""

    def __init__(self, value):
        self.value = value


class ParseError(SafeError):
    """A text that is not as written; line is the index of the first wrong line."""

    def __init__(self, line):
        self.line = line


class TooMany(OverflowError):
    """More than the limit."""

    def __init__(self, limit):
        self.limit = limit


class NothingToUndo(LookupError):
    """There is no change to take back."""


class NothingToRedo(LookupError):
    """There is no change to do again."""
