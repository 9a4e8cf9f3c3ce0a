"""What the program refuses, a class for each kind of refusal."""


class PrintError(ValueError):
    """Any refusal."""


class NoBody(PrintError):
    """The tuple is no body."""


class Outside(PrintError):
    """A cell of the body, or of a body within, is not in the room."""


class NoLayer(PrintError):
    """The number is none of a layer."""


class NoProp(PrintError):
    """No prop can stand under the cell."""


class BadReach(PrintError):
    """The number is no reach."""


class BadPlace(PrintError):
    """The head can't be at the place."""


class BadText(PrintError):
    """The text is none of a body; row is the number of the first row that can't stand."""

    def __init__(self, row):
        super().__init__(f"row {row} can't stand there")
        self.row = row
