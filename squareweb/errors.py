"""The refusals of the program, each under SquareError alone."""

# The messages leave the told numbers out: a number may have more figures than Python is ready to write.


class SquareError(ValueError):
    """Any refusal."""


class NoCut(SquareError):
    """What should be a cut of some kind is none."""


class NoText(SquareError):
    """A text is that of no cut."""


class NoName(SquareError):
    """A name is none, or nothing is kept by it."""


class NoRow(SquareError):
    """A row that the desk does not know."""


class NoSquare(SquareError):
    """A cut has no square of the told number."""

    def __init__(self, number):
        super().__init__("there is no square of this number")
        self.number = number


class TooMany(SquareError):
    """There would be more squares than are allowed, or more or fewer were told."""

    def __init__(self, many):
        super().__init__("this is not an allowed number of squares")
        self.many = many


class BadSides(SquareError):
    """The told sides are not allowed."""

    def __init__(self, width, height):
        super().__init__("these sides are not allowed")
        self.width = width
        self.height = height
