"""Packets with their whole codes."""

from packetpicture.coder import encode
from packetpicture.frames import all_keys, tile_size
from packetpicture.grays import packet_bits


def packet_code(frame, picture, key):
    """Return the code of the packet bits of a key."""
    bits = packet_bits(frame, picture, key)
    width, _ = tile_size(frame, key[1])
    return encode(width, bits)


def all_packets(frame, picture):
    """Return the packets of all keys, in order, each with its whole code."""
    # A frame has at least one key, so packet_code refuses a picture that does not fit.
    return [(key, packet_code(frame, picture, key)) for key in all_keys(frame)]
