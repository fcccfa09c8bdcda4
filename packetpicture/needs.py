"""Needed keys, near-lossless pictures and negatives, changed keys (points 44 to 46)."""

from packetpicture.checks import check_range
from packetpicture.frames import all_keys
from packetpicture.grays import packet_bits, stored_channels
from packetpicture.pictures import Picture, check_fits
from packetpicture.plans import check_rectangle, touches


def needed(frame, rectangle, channel, planes):
    """Return the keys to know a channel in a rectangle when the lowest `planes` planes are left out."""
    check_rectangle(rectangle)
    check_range("channel", channel, 0, frame.channels - 1)
    check_range("planes", planes, 0, frame.depth)
    stored = stored_channels(frame.channels, channel)
    touched = [touches(frame, rectangle, tile) for tile in range(frame.tiles())]
    return [key for key in all_keys(frame) if key[0] in stored and touched[key[1]] and key[2] >= planes]


def with_rows(picture, rows):
    """Return a picture of the same kind with the values of these rows."""
    return Picture(picture.width, picture.height, picture.depth, picture.channels, rows)


def near_value(value, planes):
    """Return what is shown for a value when the lowest `planes` planes are left out."""
    return ((value >> planes) << planes) + ((1 << planes) - 1) // 2


def near(picture, planes):
    """Return the near-lossless picture with the lowest `planes` planes left out."""
    check_range("planes", planes, 0, picture.depth)
    return with_rows(picture, [[near_value(value, planes) for value in row] for row in picture.rows()])


def negative(picture):
    """Return the negative of a picture."""
    most = (1 << picture.depth) - 1
    return with_rows(picture, [[most - value for value in row] for row in picture.rows()])


def changed(frame, one, other):
    """Return the keys whose packet bits differ in two pictures."""
    check_fits(frame, one)
    check_fits(frame, other)
    return [key for key in all_keys(frame) if packet_bits(frame, one, key) != packet_bits(frame, other, key)]
