"""The refusals."""


class LinkError(ValueError):
    """Any refusal."""


class BadBook(LinkError):
    """What is no book; `number` is that of the first command that can't be."""

    def __init__(self, number):
        super().__init__(f"command {number} can't be")
        self.number = number


class BadDelay(LinkError):
    """What is no delay."""


class BadWindows(LinkError):
    """What are no windows."""


class NoCommand(LinkError):
    """A number that no command of the book has."""


class NoWindow(LinkError):
    """No window is open at this beat."""


class NoLetter(LinkError):
    """A number that no flying letter has."""


class BadLetters(LinkError):
    """What are no letters; `at` is the place of the first that is none."""

    def __init__(self, at):
        super().__init__(f"what is at {at} can't be")
        self.at = at


class BadReport(LinkError):
    """A report that can't be."""


class TooMany(LinkError):
    """More than are looked at."""


class BadCount(LinkError):
    """A count that can't be."""


class Over(LinkError):
    """No beat is left."""


class BadStep(LinkError):
    """What are no steps; `number` is that of the first that can't be."""

    def __init__(self, number):
        super().__init__(f"step {number} can't be")
        self.number = number


class BadText(LinkError):
    """A text that writes no steps; `row` is the first that writes none."""

    def __init__(self, row):
        super().__init__(f"row {row} writes no step")
        self.row = row
