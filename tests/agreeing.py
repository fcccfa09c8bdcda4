"""The pictures that agree with what has arrived, found by going through all pictures."""

import functools
import itertools

from packetpicture.arrived import Arrived
from packetpicture.frames import Frame, all_keys, tile_size
from packetpicture.grays import packet_bits
from packetpicture.pictures import Picture
from tests import brute

# Width, height, depth, channels and tile side of frames with at most 4096 pictures.
SMALL = (
    (1, 1, 1, 1, 1), (1, 1, 8, 1, 16), (2, 1, 3, 1, 1), (2, 2, 2, 1, 2), (3, 2, 1, 1, 2), (3, 3, 1, 1, 3),
    (1, 1, 1, 3, 2), (1, 1, 3, 3, 1), (2, 1, 2, 3, 2), (1, 3, 1, 3, 2), (2, 2, 1, 3, 2),
)


def places(frame):
    """Return all pairs of a channel and a pixel."""
    return [(channel, pixel) for channel in range(frame.channels) for pixel in range(frame.pixels())]


def brute_code(frame, picture, key):
    """Return the code of a packet, by going through all lengths."""
    return brute.code(tile_size(frame, key[1])[0], packet_bits(frame, picture, key))


@functools.cache
def coded_pictures(shape):
    """Return tuples (picture, dict from each key to its code) for all pictures of a frame."""
    frame = Frame(*shape)
    width, height, depth, channels, _ = shape
    found = []
    for values in itertools.product(range(2 ** depth), repeat=width * height * channels):
        rows = [list(values[at::channels]) for at in range(channels)]
        picture = Picture(width, height, depth, channels, rows)
        found.append((picture, {key: brute_code(frame, picture, key) for key in all_keys(frame)}))
    return found


def agreeing(shape, arrived):
    """Return the pictures that agree, in the order of their packet bits."""
    frame = Frame(*shape)
    digits = dict(arrived.packets())
    found = [picture for picture, codes in coded_pictures(shape)
             if all(codes[key].startswith(digits[key]) for key in digits)]
    return sorted(found, key=lambda picture: [packet_bits(frame, picture, key) for key in all_keys(frame)])


def partly_arrived(chance, frame, packets):
    """Return an object for which of each packet a number of digits that chance chooses has arrived."""
    arrived = Arrived(frame)
    for key, code in packets:
        many = chance.choice((0, 0, len(code), chance.randrange(len(code) + 1)))
        arrived.accept(key, 0, code[:many])
    return arrived


def states(chance, shape, count):
    """Return tuples (picture, object) of pictures and of parts of their packets that have arrived."""
    frame = Frame(*shape)
    found = []
    for _ in range(count):
        picture, codes = chance.choice(coded_pictures(shape))
        found.append((picture, partly_arrived(chance, frame, list(codes.items()))))
    return found


def point_34():
    """Return the object of the example of point 34."""
    arrived = Arrived(Frame(2, 2, 2, 1, 2))
    arrived.accept((0, 0, 1), 0, "00")
    arrived.accept((0, 0, 0), 0, "010")
    return arrived


def all_whole(frame, packets):
    """Return the object for which these packets have arrived."""
    arrived = Arrived(frame)
    for key, code in packets:
        arrived.accept(key, 0, code)
    return arrived
