"""The errors of the package.

The errors do not pass their arguments on to their base classes: Python itself
has kept them by then, and shows an error by them.
"""


class ScaleError(ValueError):
    """The base class of the errors about what is described or asked for."""


class InvalidPassage(ScaleError):
    """An argument of a passage is wrong: word is its name."""

    def __init__(self, word):
        self.word = word


class InvalidScale(ScaleError):
    """An argument of a scale is wrong: word is its name."""

    def __init__(self, word):
        self.word = word


class InvalidLink(ScaleError):
    """An argument of a link is wrong: word is its name."""

    def __init__(self, word):
        self.word = word


class InvalidSystem(ScaleError):
    """An argument of a system is wrong: word is its name."""

    def __init__(self, word):
        self.word = word


class InvalidWay(ScaleError):
    """A way breaks off: at is the index of what is wrong."""

    def __init__(self, at):
        self.at = at


class InvalidText(ScaleError):
    """A text does not have its form: at is the number of the wrong part."""

    def __init__(self, at):
        self.at = at


class InvalidCommand(ScaleError):
    """A command does not have one of the forms."""


class Mismatch(ScaleError):
    """Passages do not lie between the scales that are needed."""


class Refused(ScaleError):
    """A move cannot be made: at is its number."""

    def __init__(self, at):
        self.at = at


class NoName(KeyError):
    """There is nothing of this name."""

    def __init__(self, name):
        self.name = name


class NoValue(IndexError):
    """This is no value of the scale."""

    def __init__(self, value):
        self.value = value
