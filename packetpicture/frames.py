"""Frames, their tiles and their keys (points 4, 5, 10, 11 and 15)."""

from packetpicture.checks import check_range
from packetpicture.errors import OutOfRange

SIDE_MOST = 64
VALUES_MOST = 3072
DEPTH_MOST = 8
TILE_MOST = 16


def check_kind(width, height, depth, channels):
    """Raise OutOfRange for the first of these that no picture has."""
    check_range("width", width, 1, SIDE_MOST)
    check_range("height", height, 1, SIDE_MOST)
    check_range("depth", depth, 1, DEPTH_MOST)
    if channels not in (1, 3):
        raise OutOfRange("channels")


def check_size(width, height, channels):
    """Raise OutOfRange if a picture would have too many values."""
    if width * height * channels > VALUES_MOST:
        raise OutOfRange("size")


def same_kind(one, other):
    """Return True if two frames, two pictures, or one of each have the same four numbers."""
    return (
        one.width == other.width
        and one.height == other.height
        and one.depth == other.depth
        and one.channels == other.channels
    )


class Frame:
    """The kind of a picture, and the side of its tiles."""

    def __init__(self, width, height, depth, channels, tile):
        check_kind(width, height, depth, channels)
        check_range("tile", tile, 1, TILE_MOST)
        check_size(width, height, channels)
        self.width = width
        self.height = height
        self.depth = depth
        self.channels = channels
        self.tile = tile

    def across(self):
        """Return the number of tiles in a row."""
        return (self.width + self.tile - 1) // self.tile

    def down(self):
        """Return the number of rows of tiles."""
        return (self.height + self.tile - 1) // self.tile

    def tiles(self):
        """Return the number of tiles."""
        return self.across() * self.down()

    def pixels(self):
        """Return the number of pixels."""
        return self.width * self.height

    def packets(self):
        """Return the number of keys."""
        return self.depth * self.channels * self.tiles()

    def same(self, other):
        """Return True if the other frame has the same five numbers."""
        return same_kind(self, other) and self.tile == other.tile


def frame_of(numbers):
    """Return the frame with these five numbers, or None if there is none."""
    width, height, depth, channels, tile = numbers
    try:
        return Frame(width, height, depth, channels, tile)
    except OutOfRange:
        return None


def tile_corner(frame, tile):
    """Return the first column and the first row of a tile."""
    across = frame.across()
    return tile % across * frame.tile, tile // across * frame.tile


def tile_size(frame, tile):
    """Return the width and the height of a tile, which an edge of the picture may cut."""
    left, top = tile_corner(frame, tile)
    return min(frame.tile, frame.width - left), min(frame.tile, frame.height - top)


def tile_places(frame, tile):
    """Return the number of the pixels of a tile."""
    width, height = tile_size(frame, tile)
    return width * height


def tile_pixels(frame, tile):
    """Return the numbers of the pixels of a tile, in the order of places."""
    left, top = tile_corner(frame, tile)
    width, height = tile_size(frame, tile)
    return [
        row * frame.width + column
        for row in range(top, top + height)
        for column in range(left, left + width)
    ]


def locate_pixel(frame, pixel):
    """Return the tile of a pixel and its place there."""
    side = frame.tile
    column = pixel % frame.width
    row = pixel // frame.width
    tile = row // side * frame.across() + column // side
    width, _ = tile_size(frame, tile)
    return tile, row % side * width + column % side


def all_keys(frame):
    """Return all keys of a frame, in order."""
    return [key_at(frame, number) for number in range(frame.packets())]


def key_number(frame, key):
    """Return the number of a key."""
    channel, tile, plane = key
    higher_planes = frame.depth - 1 - plane
    return (higher_planes * frame.channels + channel) * frame.tiles() + tile


def key_at(frame, number):
    """Return the key with this number."""
    rows, tile = divmod(number, frame.tiles())
    higher_planes, channel = divmod(rows, frame.channels)
    return channel, tile, frame.depth - 1 - higher_planes


def check_key(frame, key):
    """Raise OutOfRange for the first part of a key that is not one of the frame."""
    channel, tile, plane = key
    check_range("channel", channel, 0, frame.channels - 1)
    check_range("tile", tile, 0, frame.tiles() - 1)
    check_range("plane", plane, 0, frame.depth - 1)


def check_pixel(frame, channel, pixel):
    """Raise OutOfRange if the frame has no such channel or pixel."""
    check_range("channel", channel, 0, frame.channels - 1)
    check_range("pixel", pixel, 0, frame.pixels() - 1)
