"""The errors that the package raises."""


class FigureError(Exception):
    """The base class of all errors of the package."""


class BadValue(FigureError):
    """An argument is not what is asked for; at is its number, from 0 on."""

    def __init__(self, at):
        FigureError.__init__(self, f"argument {at} is not what is asked for")
        self.at = at


class BadStep(FigureError):
    """A step is none; at is the number of its first wrong member."""

    def __init__(self, at):
        FigureError.__init__(self, f"member {at} of the step is wrong")
        self.at = at


class BadClaim(FigureError):
    """A claim is none; at is the number of its first wrong member."""

    def __init__(self, at):
        FigureError.__init__(self, f"member {at} of the claim is wrong")
        self.at = at


class BadPoint(FigureError):
    """No point of the construction has this name."""

    def __init__(self, name):
        FigureError.__init__(self, f"no point has the name {name!r}")
        self.name = name


class BadPaper(FigureError):
    """A paper is wrong; at is the number of its first wrong line."""

    def __init__(self, at):
        FigureError.__init__(self, f"line {at} of the paper is wrong")
        self.at = at


class BadLine(FigureError):
    """A line cannot be told to a desk; at is its number."""

    def __init__(self, at):
        FigureError.__init__(self, f"line {at} cannot be told to a desk")
        self.at = at


class Impossible(FigureError):
    """The point of this name can be made in no figure."""

    def __init__(self, name):
        FigureError.__init__(self, f"the point {name} can be made in no figure")
        self.name = name


class Broken(FigureError):
    """The point of this name cannot be made with these values."""

    def __init__(self, name):
        FigureError.__init__(self, f"the point {name} cannot be made with these values")
        self.name = name


class TooMany(FigureError):
    """A limit is passed; word tells of what there is too much."""

    def __init__(self, word):
        FigureError.__init__(self, f"too many {word}")
        self.word = word


class NothingThere(FigureError):
    """Something is lacking; word tells what."""

    def __init__(self, word):
        FigureError.__init__(self, f"nothing there: {word}")
        self.word = word
