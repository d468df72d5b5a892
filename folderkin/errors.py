"""The errors of the program; each one has a place, an integer."""


class FolderkinError(ValueError):
    """The base class of all errors of the program."""

    def __init__(self, place):
        self.place = place


class PowerCut(FolderkinError):
    """The power ended ahead of a write; the place is the number of all writes that were done."""


class InvalidBlock(FolderkinError):
    """An integer is not the number of a block; the place is its index."""


class InvalidPattern(FolderkinError):
    """A text writes no list of patterns; the place is an index in the text."""


class InvalidBytes(FolderkinError):
    """Bytes write no value of the asked kind; the place is an index in the bytes."""


class InvalidScript(FolderkinError):
    """A text writes no script; the place is the index of a line."""
