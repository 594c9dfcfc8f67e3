"""The errors of the program."""


class CourtError(ValueError):
    """What all errors of the program have in common."""


class BadSource(CourtError):
    """A text that is no program, with its first wrong line."""

    def __init__(self, line, reason):
        self.line = line
        self.reason = reason


class BadTree(CourtError):
    """A value that is no source tree or no checked tree."""


class BadProgram(CourtError):
    """A source tree that breaks a rule of the language."""

    def __init__(self, reason):
        self.reason = reason


class BadFit(CourtError):
    """A program that is too long for the memory of the machine."""


class BadOpening(CourtError):
    """A value that is no opening of the state in question."""


class BadCall(CourtError):
    """A call that cannot be answered."""


class BadSchedule(CourtError):
    """A text that is no schedule, with its first wrong line."""

    def __init__(self, line):
        self.line = line
