"""Gray bits, stored bits and packet bits (points 13 to 17)."""

from packetpicture.frames import check_key, locate_pixel, tile_pixels
from packetpicture.pictures import Picture, check_fits


def gray_bit(value, plane):
    """Return the gray bit of a value in a plane."""
    return ((value >> plane) ^ (value >> (plane + 1))) & 1


def value_of(grays):
    """Return the value with these gray bits, from the highest plane on."""
    value = 0
    for gray in grays:
        value = value * 2 + (gray ^ (value & 1))
    return value


def stored_bit(picture, channel, pixel, plane):
    """Return the bit of a pixel in a plane and a stored channel."""
    if picture.channels == 1:
        return gray_bit(picture.value(0, pixel), plane)
    middle = gray_bit(picture.value(1, pixel), plane)
    if channel == 0:
        return middle
    other = 0 if channel == 1 else 2
    return middle ^ gray_bit(picture.value(other, pixel), plane)


def packet_bits(frame, picture, key):
    """Return the packet bits of a key: the stored bits of its tile, in the order of places."""
    check_fits(frame, picture)
    check_key(frame, key)
    channel, tile, plane = key
    bits = [stored_bit(picture, channel, pixel, plane) for pixel in tile_pixels(frame, tile)]
    return "".join([str(bit) for bit in bits])


def stored_channels(channels, channel):
    """Return the stored channels whose bits, added modulo 2, are the gray bits of a channel."""
    if channels == 1 or channel == 1:
        return [0]
    return [0, 1 if channel == 0 else 2]


def value_in_packets(frame, packets, channel, pixel):
    """Return the value of a pixel in a channel, from the packet bits of all keys."""
    tile, place = locate_pixel(frame, pixel)
    needed = stored_channels(frame.channels, channel)
    grays = []
    for plane in reversed(range(frame.depth)):
        bits = [int(packets[(stored, tile, plane)][place]) for stored in needed]
        grays.append(sum(bits) % 2)
    return value_of(grays)


def picture_of(frame, packets):
    """Return the picture that fits the frame and has these packet bits."""
    rows = [
        [value_in_packets(frame, packets, channel, pixel) for pixel in range(frame.pixels())]
        for channel in range(frame.channels)
    ]
    return Picture(frame.width, frame.height, frame.depth, frame.channels, rows)
