"""The errors of the package: each keeps what it was made with."""


class OwnError(ValueError):
    """The base class of the errors that are no missing key."""


class BadSizes(OwnError):
    """A value is no sizes: at is -1, or the index of the first wrong item."""

    def __init__(self, at):
        self.at = at


class BadPages(OwnError):
    """A value is no pages: at is -1, or the index of the first wrong item."""

    def __init__(self, at):
        self.at = at


class BadPicture(OwnError):
    """A value is no picture: at is -1, or the index of the first wrong item."""

    def __init__(self, at):
        self.at = at


class BadRun(OwnError):
    """A value is no row of moves: at is -1, or the index of the first wrong item."""

    def __init__(self, at):
        self.at = at


class BadOctets(OwnError):
    """A value is no octets: at is -1, or the index of the first wrong item."""

    def __init__(self, at):
        self.at = at


class BadText(OwnError):
    """A value is no line: at is -1, or the index of the first wrong word."""

    def __init__(self, at):
        self.at = at


class Refused(OwnError):
    """A value cannot be passed here."""

    def __init__(self, value):
        self.value = value


class Broken(OwnError):
    """What stands in octets at this place cannot stand there, or they end there."""

    def __init__(self, at):
        self.at = at


class NoRoom(OwnError):
    """There is no room for a block of this size."""

    def __init__(self, size):
        self.size = size


class TooGreat(OwnError):
    """Something is greater than the most that can be."""

    def __init__(self, most):
        self.most = most


class NoBlock(KeyError):
    """No block has this handle."""

    def __init__(self, handle):
        self.handle = handle


class NoUnit(KeyError):
    """A value is no unit."""

    def __init__(self, value):
        self.value = value
