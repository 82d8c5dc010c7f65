"""The errors of the package, each with its fields as attributes."""


class RingError(ValueError):
    """The base of the errors that are not about a missing index, place or version."""


class NotDistinct(RingError):
    """A height occurs twice in a collection."""

    def __init__(self, height):
        self.height = height


class TooLong(RingError):
    """A ring would have more places than the bound."""

    def __init__(self, bound):
        self.bound = bound


class LastPlace(RingError):
    """The only place of a ring can not be removed."""


class OutOfRange(RingError):
    """A result would not be a height."""


class BadRing(RingError):
    """A value is not a ring; the error is the one that ring_error returns."""

    def __init__(self, error):
        self.error = error


class BadHeight(RingError):
    """A value is not a height."""

    def __init__(self, value):
        self.value = value


class BadTolerance(RingError):
    """A value is not a tolerance."""

    def __init__(self, value):
        self.value = value


class BadTurns(RingError):
    """A value is not a number of turns that a calm board can allow."""

    def __init__(self, value):
        self.value = value


class Restless(RingError):
    """A ring has more least turns, this number, than a calm board allows."""

    def __init__(self, number):
        self.number = number


class TooManyEdits(RingError):
    """As many edits stand as a board can have."""


class NothingToUndo(RingError):
    """No edit stands."""


class BadEdits(RingError):
    """A value is not a list or tuple of edits, or it is too long."""


class BadEdit(RingError):
    """The item at the index is not an edit."""

    def __init__(self, index):
        self.index = index


class Rejected(RingError):
    """The edit at the index of a batch can not be done."""

    def __init__(self, index):
        self.index = index


class BadText(RingError):
    """A value is not a text (index None), or the word at the index is wrong."""

    def __init__(self, index):
        self.index = index


class NoIndex(LookupError):
    """A value is not the index of a ring of a collection."""

    def __init__(self, value):
        self.value = value


class NoPlace(LookupError):
    """A value is not a place of the ring."""

    def __init__(self, value):
        self.value = value


class NoVersion(LookupError):
    """A value is not a version of the board."""

    def __init__(self, value):
        self.value = value
