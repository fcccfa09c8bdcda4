"""The numbers of the pictures that agree with what has arrived (point 38)."""

from packetpicture.counting import count_possible, possible_at, rank_among
from packetpicture.errors import OutOfRange
from packetpicture.frames import all_keys, tile_places, tile_size
from packetpicture.grays import packet_bits, picture_of
from packetpicture.packets import packet_code
from packetpicture.pictures import fits_frame


def count_of_key(arrived, key):
    """Return the number of possible bits of a packet."""
    width, height = tile_size(arrived.frame, key[1])
    return count_possible(width, width * height, arrived.digits(key))


def rank_of_key(arrived, picture, key):
    """Return the rank of the packet bits of a picture that agrees among the possible ones."""
    width, _ = tile_size(arrived.frame, key[1])
    return rank_among(width, arrived.digits(key), packet_bits(arrived.frame, picture, key))


def bits_of_key(arrived, key, rank):
    """Return the possible bits of a packet with this rank."""
    width, _ = tile_size(arrived.frame, key[1])
    return possible_at(width, tile_places(arrived.frame, key[1]), arrived.digits(key), rank)


def count_pictures(arrived):
    """Return the number of pictures that agree."""
    count = 1
    for key in all_keys(arrived.frame):
        count = count * count_of_key(arrived, key)
    return count


def agrees(arrived, picture):
    """Return True if the picture agrees with what has arrived."""
    frame = arrived.frame
    if not fits_frame(frame, picture):
        return False
    for key, digits in arrived.packets():
        if not packet_code(frame, picture, key).startswith(digits):
            return False
    return True


def number_of(arrived, picture):
    """Return the number of a picture that agrees, or None if it does not agree."""
    if not agrees(arrived, picture):
        return None
    number = 0
    for key in all_keys(arrived.frame):
        number = number * count_of_key(arrived, key) + rank_of_key(arrived, picture, key)
    return number


def picture_at(arrived, number):
    """Return the picture with this number, or None if the number is too large."""
    if number < 0:
        raise OutOfRange("number")
    packets = {}
    left = number
    # The last packet counts least, so its rank is the first remainder.
    for key in reversed(all_keys(arrived.frame)):
        left, rank = divmod(left, count_of_key(arrived, key))
        packets[key] = bits_of_key(arrived, key, rank)
    return picture_of(arrived.frame, packets) if left == 0 else None
