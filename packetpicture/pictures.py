"""Pictures (points 4 and 5)."""

from packetpicture.checks import check_range
from packetpicture.errors import OtherKind, OutOfRange
from packetpicture.frames import Frame, check_kind, check_size, same_kind


def check_values(width, height, depth, channels, values):
    """Raise OutOfRange unless each channel has a list with a possible value for each pixel."""
    if len(values) != channels:
        raise OutOfRange("values")
    for row in values:
        if len(row) != width * height:
            raise OutOfRange("values")
        for value in row:
            check_range("values", value, 0, (1 << depth) - 1)


class Picture:
    """A picture: for each channel, the values of all pixels."""

    def __init__(self, width, height, depth, channels, values):
        check_kind(width, height, depth, channels)
        check_size(width, height, channels)
        check_values(width, height, depth, channels, values)
        self.width = width
        self.height = height
        self.depth = depth
        self.channels = channels
        self._rows = [list(row) for row in values]

    def value(self, channel, pixel):
        """Return the value of a pixel in a channel."""
        return self._rows[channel][pixel]

    def row(self, channel):
        """Return the values of a channel, as a new list."""
        return list(self._rows[channel])

    def rows(self):
        """Return the values of all channels, as new lists."""
        return [list(row) for row in self._rows]

    def same(self, other):
        """Return True if the other picture is of the same kind and has the same values."""
        return same_kind(self, other) and self._rows == other.rows()

    def with_value(self, channel, pixel, value):
        """Return a new picture with another value of a pixel in a channel."""
        check_range("channel", channel, 0, self.channels - 1)
        check_range("pixel", pixel, 0, self.width * self.height - 1)
        check_range("value", value, 0, (1 << self.depth) - 1)
        rows = self.rows()
        rows[channel][pixel] = value
        return Picture(self.width, self.height, self.depth, self.channels, rows)

    def framed(self, tile):
        """Return the frame of this picture with tiles of this side."""
        return Frame(self.width, self.height, self.depth, self.channels, tile)


def fits_frame(frame, picture):
    """Return True if the picture fits the frame."""
    return same_kind(frame, picture)


def check_fits(frame, picture):
    """Raise OtherKind if the picture does not fit the frame."""
    if not fits_frame(frame, picture):
        raise OtherKind("the picture does not fit the frame")


def blank(frame):
    """Return the picture that fits the frame and has all values 0."""
    rows = [[0] * frame.pixels() for _ in range(frame.channels)]
    return Picture(frame.width, frame.height, frame.depth, frame.channels, rows)
