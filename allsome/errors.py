"""The refusals: one class for each, all right under ClaimError."""


class ClaimError(ValueError):
    """Whatever the program refuses."""


class NoStep(ClaimError):
    """A step of a paper makes nothing; step is its number."""

    def __init__(self, step):
        ClaimError.__init__(self, f"step {step} makes nothing")
        self.step = step


class NoText(ClaimError):
    """A row of a text isn't so; line is its number."""

    def __init__(self, line):
        ClaimError.__init__(self, f"line {line} is not as it must be written")
        self.line = line


class NotWon(ClaimError):
    """The side that is asked for doesn't win."""


class TooMany(ClaimError):
    """There are more of something than may be."""


class NoPick(ClaimError):
    """What is told is no pick here."""


class NoBack(ClaimError):
    """Nothing stands that could be taken back."""


class NoRow(ClaimError):
    """What is told is no row, or there is no row of this number."""


class NoLine(ClaimError):
    """What the desk is told is nothing that it answers."""
