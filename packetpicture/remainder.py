"""Everything that is missing as a single number (point 57)."""

from packetpicture.counting import binary, binary_value, count_possible, rank_among
from packetpicture.frames import all_keys, tile_size
from packetpicture.grays import packet_bits
from packetpicture.numbering import count_pictures, picture_at
from packetpicture.packets import packet_code
from packetpicture.pictures import check_fits
from packetpicture.requests import check_requests


def bits_needed(number):
    """Return the smallest k with number <= 2^k."""
    return (number - 1).bit_length()


def remainder_length(arrived):
    """Return the length of the remainder."""
    return bits_needed(count_pictures(arrived))


def count_and_rank(frame, picture, key, start):
    """Return the number of possible bits of a packet with `start` digits, and the picture's rank."""
    width, height = tile_size(frame, key[1])
    code = packet_code(frame, picture, key)
    digits = code[:start]
    bits = packet_bits(frame, picture, key)
    return count_possible(width, width * height, digits), rank_among(width, digits, bits)


def remainder(frame, picture, requests):
    """Return the number of the picture among those that agree, as digits."""
    check_fits(frame, picture)
    check_requests(frame, requests)
    starts = {key: start for key, start in requests}
    number = 0
    pictures = 1
    # A packet that the request does not name has arrived as a whole: its count is 1, its rank 0.
    for key in all_keys(frame):
        if key in starts:
            count, rank = count_and_rank(frame, picture, key, starts[key])
            number = number * count + rank
            pictures = pictures * count
    return binary(number, bits_needed(pictures))


def finish(arrived, digits):
    """Return the picture of a remainder, or None if there is none."""
    if len(digits) != remainder_length(arrived):
        return None
    return picture_at(arrived, binary_value(digits))
