"""The errors of the package."""


class PictureError(ValueError):
    """The base class of all errors of the package."""


class TextFault(PictureError):
    """A text is not that of a picture: the line, the column and the words of its fault."""

    def __init__(self, line, column, words):
        super().__init__(f"line {line}, column {column}: {words}")
        self.line = line
        self.column = column
        self.words = words


class OutOfRange(PictureError):
    """An argument, or a part of one, is not within its limits; the name tells which."""

    def __init__(self, name):
        super().__init__(f"{name} is out of range")
        self.name = name


class BitsAhead(PictureError):
    """A piece starts behind the digits that have arrived."""


class Contradiction(PictureError):
    """A piece differs from the digits that have arrived."""


class NoSuchPacket(PictureError):
    """No bits have a code that starts with the digits."""


class NoFrame(PictureError):
    """No frame was read from a file."""


class OtherFrame(PictureError):
    """A file has another frame."""


class OtherKind(PictureError):
    """A picture does not fit the frame."""


class OutsidePicture(PictureError):
    """A rectangle of tiles does not lie in the frame."""


class PacketTwice(PictureError):
    """A key occurs a second time."""


class NoLetter(PictureError):
    """No letter has this number."""


class KeeperFull(PictureError):
    """A keeper has too few blocks left for a piece."""


class NotKept(PictureError):
    """A disk has no valid header, or the power of a keeper's disk was cut."""


class PowerCut(PictureError):
    """The power of a disk was cut."""
