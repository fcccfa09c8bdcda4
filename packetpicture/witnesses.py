"""Witnesses: pictures that agree and have a value at one end of what a pixel can have (point 36)."""

from packetpicture.coder import sample_of
from packetpicture.errors import OutOfRange
from packetpicture.frames import all_keys, check_pixel, locate_pixel, tile_places
from packetpicture.grays import gray_bit, picture_of, stored_channels
from packetpicture.ranges import greatest_value, least_value


def known_or_zero(arrived, key, place):
    """Return the packet bit at a place if it is known, and 0 otherwise."""
    bit = arrived.known_bit(key, place)
    return 0 if bit is None else bit


def base_bit(base, extra, gray):
    """Return the bit for stored channel 0 so that, with the one for the extra stored channel,
    it makes this gray bit. Known bits are kept; None stands for one that is not known."""
    if base is not None:
        return base
    return 0 if extra is None else extra ^ gray


def chosen_bits(arrived, channel, tile, place, plane, gray):
    """Return the bits to take for all stored channels so that the channel has this gray bit."""
    channels = arrived.frame.channels
    keys = [(stored, tile, plane) for stored in range(channels)]
    bits = [known_or_zero(arrived, key, place) for key in keys]
    needed = stored_channels(channels, channel)
    if len(needed) == 1:
        bits[0] = gray
        return bits
    extra = needed[1]
    base = base_bit(arrived.known_bit(keys[0], place), arrived.known_bit(keys[extra], place), gray)
    bits[0] = base
    bits[extra] = base ^ gray
    return bits


def sample_at(arrived, key, place, bit):
    """Return the sample of what has arrived of a packet."""
    return sample_of(arrived.prefix(key), tile_places(arrived.frame, key[1]), place, str(bit))


def packets_with(arrived, channel, pixel, value):
    """Return the packet bits of a picture that agrees and has this value at the pixel."""
    frame = arrived.frame
    tile, place = locate_pixel(frame, pixel)
    chosen = [
        chosen_bits(arrived, channel, tile, place, plane, gray_bit(value, plane))
        for plane in range(frame.depth)
    ]
    packets = {}
    for key in all_keys(frame):
        stored, here, plane = key
        if here == tile:
            packets[key] = sample_at(arrived, key, place, chosen[plane][stored])
        else:
            packets[key] = sample_at(arrived, key, 0, known_or_zero(arrived, key, 0))
    return packets


def witness(arrived, channel, pixel, end):
    """Return a picture that agrees and has the least or the greatest value at the pixel."""
    check_pixel(arrived.frame, channel, pixel)
    if end not in ("least", "greatest"):
        raise OutOfRange("end")
    if end == "least":
        value = least_value(arrived, channel, pixel)
    else:
        value = greatest_value(arrived, channel, pixel)
    return picture_of(arrived.frame, packets_with(arrived, channel, pixel, value))
