"""The errors of the package, each with its fields.

None calls the __init__ of its base: Python itself keeps what an error was made
with, and shows it as the message.
"""


class SignsError(ValueError):
    """The base of all errors of the package."""


class BadNumber(SignsError):
    """An integer, or a list of integers, is none or not within its bounds."""

    def __init__(self, part):
        self.part = part


class BadBound(SignsError):
    """What should be a Bound is none."""

    def __init__(self, part):
        self.part = part


class BadPoly(SignsError):
    """What should be a Poly, or the numbers of one, is none."""

    def __init__(self, part):
        self.part = part


class BadWeb(SignsError):
    """What should be a Web, or the ties of one, is none."""

    def __init__(self, part):
        self.part = part


class BadSigns(SignsError):
    """What should be signs of a web is none."""

    def __init__(self, part):
        self.part = part


class BadVectors(SignsError):
    """What should be Vectors, or the rows of them, is none."""

    def __init__(self, part):
        self.part = part


class BadLots(SignsError):
    """What should tell the lots of vectors does not."""

    def __init__(self, part):
        self.part = part


class BadRound(SignsError):
    """What should be a Round, or the renamings of one, is none."""

    def __init__(self, part):
        self.part = part


class BadDesk(SignsError):
    """What should be a Desk is none."""

    def __init__(self, part):
        self.part = part


class Misfit(SignsError):
    """Things that are right by themselves do not fit together."""

    def __init__(self, part):
        self.part = part


class Missing(SignsError):
    """A value that is none here; only the errors below it are raised."""

    def __init__(self, value):
        self.value = value


class NoPlace(Missing):
    """A value that is no place of the web."""


class NoTie(Missing):
    """A value that is not the number of a tie, or of a free one."""


class NoName(Missing):
    """A value that is no name of something that is kept."""


class Twice(SignsError):
    """A value that stands there already."""

    def __init__(self, value):
        self.value = value


class TooMany(SignsError):
    """There are more than most of what is told."""

    def __init__(self, what, most):
        self.what = what
        self.most = most


class Impossible(SignsError):
    """What is asked for cannot be; the paper shows it."""

    def __init__(self, paper):
        self.paper = paper


class Nothing(SignsError):
    """There is nothing to take back, or to do again."""


class BadText(SignsError):
    """A text whose item of this index cannot stand, or is missing."""

    def __init__(self, line, item):
        self.line = line
        self.item = item


class BadLine(SignsError):
    """A line of a desk, by its number, and the error that it raised."""

    def __init__(self, line, error):
        self.line = line
        self.error = error
