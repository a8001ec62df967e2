"""The errors of the package; each keeps what it was made with."""


class UnderError(ValueError):
    """The base of every error of the package but NoKey."""


class InvalidLetters(UnderError):
    """The letters are no string of 2 to 5 different characters, ascending."""


class InvalidMade(UnderError):
    """A made text is wrong at this index."""

    def __init__(self, at):
        self.at = at


class InvalidBound(UnderError):
    """There is no bound of this kind with this made text."""


class InvalidZone(UnderError):
    """The text of a zone is wrong at the word with this number."""

    def __init__(self, at):
        self.at = at


class InvalidRow(UnderError):
    """A row or a test cannot be made; the word tells which argument is wrong."""

    def __init__(self, word):
        self.word = word


class InvalidProgram(UnderError):
    """The text of a program is wrong at the line with this number."""

    def __init__(self, at):
        self.at = at


class InvalidCommand(UnderError):
    """A desk does not know this command, or not now."""


class Mismatch(UnderError):
    """Things over different letters were passed together."""


class NoText(UnderError):
    """The value is no text over the letters."""

    def __init__(self, value):
        self.value = value


class NoValue(UnderError):
    """The value is no integer from 0."""

    def __init__(self, value):
        self.value = value


class NoName(UnderError):
    """A set of names has no name with this number."""

    def __init__(self, number):
        self.number = number


class NoRow(UnderError):
    """A program has no row with this number."""

    def __init__(self, at):
        self.at = at


class NoKey(KeyError):
    """A store has no such key."""

    def __init__(self, key):
        self.key = key
